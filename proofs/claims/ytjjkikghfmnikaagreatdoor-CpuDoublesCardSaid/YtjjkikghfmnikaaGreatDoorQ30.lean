/- Layer 5: the program's instructions that remain. -/
import Derived.Test.YtjjkikghfmnikaaGreatDoorQ29
set_option linter.unusedSimpArgs false
set_option linter.unusedVariables false
set_option maxRecDepth 100000
namespace Go.Proofs.YtjjkikghfmnikaaGreatDoor
open Go.ChangeShapes Go.WideShapes Go.ChangeAt Go.RowKit
theorem bitsW_bd (f : BinOp) (a b : Int) : 0 ≤ bitsW f a b ∧ bitsW f a b ≤ 65535 := by
  unfold bitsW bits
  have := wrap_u16_nonneg
  constructor
  · split <;> (try exact wrap_u16_nonneg _)
  · split <;> (simp [IntKind.wrap, IntKind.bits, IntKind.signed]; omega)
set_option maxHeartbeats 1000000 in
theorem eff_mask : EffC 99 effMASK true := by
  intro B g s v ea ec fa fc ca cc w hl hs
  have HS := Lib.hid hs
  have gb := g_bd hs.ok v
  have rb := hs.ok.2.A
  have lb := hs.ok.2.L
  have qb := hs.ok.2.Q
  have l7 : s.r.L ≤ 32767 := hs.ok.1.1
  have q7 : s.r.Q ≤ 32767 := hs.ok.1.2.1
  have hl2 := St.len_rdO s
  unfold effMASK
  obtain ⟨x, hx⟩ : ∃ x, s.g v = x := ⟨_, rfl⟩
  rw [hx] at gb
  simp only [hx]
  have HX := Lib.hid hx
  have cb := corr_bd gb.1 gb.2
  have ca0 := corr_bd rb.1 rb.2
  have bb := bitsW_bd .and (oCorr s.r.A) (oCorr x)
  have eb := ext_bd (bitsW .and (oCorr s.r.A) (oCorr x))
  clear hs hx
  unfold bitsW at *
  go_enter Tryz.func99, Tryz.ntmps99
  go_wp2_with (first
    | (go_at_call 154; refine (word_any B g s _ v ea ec fa fc ca cc _ HS.out).mono ?_; rintro e w0 ⟨rfl, rfl⟩)
    | (go_at_call 152; refine (get_any B g s _ v ea ec fa fc ca cc x HX.out (by omega) _ HS.out).mono ?_; rintro e w1 ⟨rfl, h1, hb⟩; (have H1 := Lib.hid h1); (have X1 := Lib.hid hb); (have c0 : w1.cell? ⟨g, 0, none⟩ = some (.int .u16 s.r.A) := by obtain ⟨_, _, _, k⟩ := h1; exact k.b.cell 0 _ rfl); (have f0 : w1.frozen? ⟨g, 0, none⟩ = false := by obtain ⟨_, _, _, k⟩ := h1; exact k.b.free 0 _ rfl); (obtain ⟨vC, vO, vR, h2⟩ := id h1); (have H2 := Lib.hid h2); clear h2; clear h1 hb)
    | (go_at_call 28; refine (Correct_any _ (by omega) (by omega) _).mono ?_; rintro e w3 ⟨rfl, rfl⟩)
    | (go_at_call 26; refine (Extend_any _ (by omega) (by omega) _).mono ?_; rintro e w2 ⟨rfl, rfl⟩))
  go_end0
  exact ⟨rfl, ⟨_, _, _, H2.out.set 0 (by omega) _ _ s.cyc true rfl (ok_A H2.out.ok eb.1 eb.2)⟩, X1.out.setCell (p := ⟨g, 0, none⟩) H2.out.lo _⟩
set_option maxHeartbeats 1000000 in
theorem eff_msu : EffC 169 effMSU true := by
  intro B g s v ea ec fa fc ca cc w hl hs
  have HS := Lib.hid hs
  have gb := g_bd hs.ok v
  have rb := hs.ok.2.A
  have lb := hs.ok.2.L
  have qb := hs.ok.2.Q
  have l7 : s.r.L ≤ 32767 := hs.ok.1.1
  have q7 : s.r.Q ≤ 32767 := hs.ok.1.2.1
  have hl2 := St.len_rdO s
  unfold effMSU
  obtain ⟨x, hx⟩ : ∃ x, s.g v = x := ⟨_, rfl⟩
  rw [hx] at gb
  simp only [hx]
  have HX := Lib.hid hx
  have cb := corr_bd gb.1 gb.2
  have ca0 := corr_bd rb.1 rb.2
  have bb : 0 ≤ oTwos (oCorr s.r.A) (oCorr x) ∧ oTwos (oCorr s.r.A) (oCorr x) ≤ 65535 := by unfold oTwos; split <;> omega
  have eb := ext_bd (oTwos (oCorr s.r.A) (oCorr x))
  clear hs hx
  go_enter Tryz.func169, Tryz.ntmps169
  go_wp2_with (first
    | (go_at_call 154; refine (word_any B g s _ v ea ec fa fc ca cc _ HS.out).mono ?_; rintro e w0 ⟨rfl, rfl⟩)
    | (go_at_call 152; refine (get_any B g s _ v ea ec fa fc ca cc x HX.out (by omega) _ HS.out).mono ?_; rintro e w1 ⟨rfl, h1, hb⟩; (have H1 := Lib.hid h1); (have X1 := Lib.hid hb); (have c0 : w1.cell? ⟨g, 0, none⟩ = some (.int .u16 s.r.A) := by obtain ⟨_, _, _, k⟩ := h1; exact k.b.cell 0 _ rfl); (have f0 : w1.frozen? ⟨g, 0, none⟩ = false := by obtain ⟨_, _, _, k⟩ := h1; exact k.b.free 0 _ rfl); (obtain ⟨vC, vO, vR, h2⟩ := id h1); (have H2 := Lib.hid h2); clear h2; clear h1 hb)
    | (go_at_call 28; refine (Correct_any _ (by omega) (by omega) _).mono ?_; rintro e w3 ⟨rfl, rfl⟩)
    | (go_at_call 191; refine (TwosDiff_any _ (by omega) (by omega) _ (by omega) (by omega) _).mono ?_; rintro e w2 ⟨rfl, rfl⟩)
    | (go_at_call 26; refine (Extend_any _ (by omega) (by omega) _).mono ?_; rintro e w2 ⟨rfl, rfl⟩))
  go_end0
  exact ⟨rfl, ⟨_, _, _, H2.out.set 0 (by omega) _ _ s.cyc true rfl (ok_A H2.out.ok eb.1 eb.2)⟩, X1.out.setCell (p := ⟨g, 0, none⟩) H2.out.lo _⟩
set_option maxHeartbeats 1000000 in
theorem xch_any (B g : Nat) (s : St) (hr : Bool) (v : Vw) (ea : Option Addr) (ec : Nat) (fa : Option Addr) (fc : Nat) (ca : Option Addr) (cc : Nat) (w : World) (hl : s.len ≤ 950) (hs : HAt w B g s hr v ea ec fa fc ca cc) :
    Calls Tryz.prog 167 #[.pointer (some ⟨g, 0, none⟩)] w fun e w' => e = .returned (.tuple #[]) ∧ HAt w' B g (effXCH s v) true v ea ec fa fc ca cc ∧ Below B w w' := by
  have HS := Lib.hid hs
  have gb := g_bd hs.ok v
  have rb := hs.ok.2.A
  have lb := hs.ok.2.L
  have qb := hs.ok.2.Q
  have l7 : s.r.L ≤ 32767 := hs.ok.1.1
  have q7 : s.r.Q ≤ 32767 := hs.ok.1.2.1
  have hl2 := St.len_rdO s
  unfold effXCH
  obtain ⟨x, hx⟩ : ∃ x, s.g v = x := ⟨_, rfl⟩
  rw [hx] at gb
  simp only [hx]
  have HX := Lib.hid hx
  have eb := ext_bd s.r.A
  have cb := corr_bd gb.1 gb.2
  clear hs hx
  go_enter Tryz.func167, Tryz.ntmps167
  go_wp2_with (first
    | (go_at_call 152; refine (get_any B g s _ v ea ec fa fc ca cc x HX.out (by omega) _ HS.out).mono ?_; rintro e w1 ⟨rfl, h1, hb⟩; (have H1 := Lib.hid h1); (have X1 := Lib.hid hb); (have d0 : w1.cell? ⟨g, 0, none⟩ = some (.int .u16 s.r.A) := by obtain ⟨_, _, _, k⟩ := h1; exact k.b.cell 0 _ rfl); clear h1 hb)
    | (go_at_call 190; refine (put_any B g s.rdO true v ea ec fa fc ca cc s.r.A rb.1 rb.2 (by omega) _ H1.out).mono ?_; rintro e w4 ⟨rfl, h4, hb⟩; (obtain ⟨vC, vO, vR, h5⟩ := h4); (have H5 := Lib.hid h5); (have c0 := h5.b.cell 0 _ rfl); (have f0 := h5.b.free 0 _ rfl); (have X4 := Lib.hid (X1.out.trans hb)); clear h5 hb)
    | (go_at_call 28; refine (Correct_any _ (by omega) (by omega) _).mono ?_; rintro e w3 ⟨rfl, rfl⟩))
  go_end0
  exact ⟨rfl, ⟨_, _, _, H5.out.set 0 (by omega) (.int .u16 x) _ _ true rfl (ok_A H5.out.ok gb.1 gb.2)⟩, X4.out.setCell (p := ⟨g, 0, none⟩) H5.out.lo _⟩
set_option maxHeartbeats 2000000 in
theorem eff_dxch : EffC 165 effDXCH true := by
  intro B g s v ea ec fa fc ca cc w hl hs
  have HS := Lib.hid hs
  have ab := gA_bd hs.ok v
  have eb := ext_bd s.r.L
  have lb := hs.ok.2.L
  have hl2 := St.len_rdA s
  have hl3 := St.len_put s.rdA (nxtP s.ss s.sa) (oExt s.r.L)
  unfold effDXCH
  obtain ⟨y, hy⟩ : ∃ y, s.gA v = y := ⟨_, rfl⟩
  rw [hy] at ab ⊢
  have cb := corr_bd ab.1 ab.2
  have HY := Lib.hid hy
  have hl4 : (((s.rdA).put (nxtP s.ss s.sa) (oExt s.r.L)).setL (oCorr y)).len ≤ s.len + 2 := by
    have : (((s.rdA).put (nxtP s.ss s.sa) (oExt s.r.L)).setL (oCorr y)).len = ((s.rdA).put (nxtP s.ss s.sa) (oExt s.r.L)).len := rfl
    omega
  clear hs hy
  go_enter Tryz.func165, Tryz.ntmps165
  go_wp2_with (first
    | (go_at_call 155; refine (getAfter_any B g s _ v ea ec fa fc ca cc y HY.out (by omega) _ HS.out).mono ?_; rintro e w1 ⟨rfl, h1, hb⟩; (have H1 := Lib.hid h1); (have X1 := Lib.hid hb); (have c1 : w1.cell? ⟨g, 1, none⟩ = some (.int .u16 s.r.L) := by obtain ⟨_, _, _, k⟩ := h1; exact k.b.cell 1 _ rfl); clear h1 hb)
    | (go_at_call 26; refine (Extend_any _ (by omega) (by omega) _).mono ?_; rintro e w2 ⟨rfl, rfl⟩)
    | (go_at_call 189; refine (putAfter_any B g s.rdA true v ea ec fa fc ca cc (oExt s.r.L) eb.1 eb.2 (by omega) _ H1.out).mono ?_; rintro e w4 ⟨rfl, ⟨vC, vO, vR, h5⟩, hb⟩; (have H5 := Lib.hid h5); (have c1 := h5.b.cell 1 _ rfl); (have f1 := h5.b.free 1 _ rfl); (have X4 := Lib.hid (X1.out.trans hb)); clear h5 hb)
    | (go_at_call 28; refine (Correct_any _ (by omega) (by omega) _).mono ?_; rintro e w3 ⟨rfl, rfl⟩)
    | (go_at_call 167; refine (xch_any B g (((s.rdA).put (nxtP s.ss s.sa) (oExt s.r.L)).setL (oCorr y)) true v ea ec fa fc ca cc _ (by omega) ⟨_, _, _, H5.out.set 1 (by omega) _ _ _ true rfl (ok_L H5.out.ok cb.1 cb.2)⟩).mono ?_; rintro e w6 ⟨rfl, h6, hb⟩))
  go_end0
  exact ⟨rfl, h6, (X4.out.setCell (p := ⟨g, 1, none⟩) H5.out.lo _).trans hb⟩
end Go.Proofs.YtjjkikghfmnikaaGreatDoor
