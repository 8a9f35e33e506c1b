/- Layer 5: the program's instructions that remain. -/
import Derived.Test.YtjjkikghfmnikaaGreatDoorQ30
set_option linter.unusedSimpArgs false
set_option linter.unusedVariables false
set_option maxRecDepth 100000
namespace Go.Proofs.YtjjkikghfmnikaaGreatDoor
open Go.ChangeShapes Go.WideShapes Go.ChangeAt Go.RowKit
theorem sg_bd (n : Int) : 0 ≤ sg n ∧ sg n ≤ 65535 := by unfold sg; repeat (first | omega | split)
theorem St.put_sa (s : St) (a x : Int) : (s.put a x).sa = s.sa := by unfold St.put; split <;> rfl
theorem St.put_ss (s : St) (a x : Int) : (s.put a x).ss = s.ss := by unfold St.put; split <;> rfl
set_option maxHeartbeats 1000000 in
theorem eff_rand : EffC 106 (effIn .and) false := by
  intro B g s v ea ec fa fc ca cc w hl hs
  have HS := Lib.hid hs
  have cb := chn_bd hs.ok v
  have rb := hs.ok.2.A
  have ca0 := corr_bd rb.1 rb.2
  unfold effIn chB
  obtain ⟨x, hx⟩ : ∃ x, chn s v = x := ⟨_, rfl⟩
  rw [hx] at cb ⊢
  have bb := bitsW_bd .and (oCorr s.r.A) x
  have eb := ext_bd (bitsW .and (oCorr s.r.A) x)
  unfold bitsW at *
  have HX := Lib.hid hx
  clear hs hx
  go_enter Tryz.func106, Tryz.ntmps106
  go_wp2_with (first
    | (go_at_call 154; refine (word_any B g s false v ea ec fa fc ca cc _ HS.out).mono ?_; rintro e w0 ⟨rfl, rfl⟩)
    | (go_at_call 157; refine (input_any B g s false v ea ec fa fc ca cc x HX.out _ HS.out).mono ?_; rintro e w1 ⟨rfl, m, rfl⟩; (obtain ⟨vC, vO, vR, h1⟩ := HS.out.below (below_drewN (Below.refl w.heap.size w) m) (Nat.le_refl _)); (have H1 := Lib.hid h1); (have c0 := h1.b.cell 0 _ rfl); (have f0 := h1.b.free 0 _ rfl); clear h1)
    | (go_at_call 26; refine (Extend_any _ (by omega) (by omega) _).mono ?_; rintro e w2 ⟨rfl, rfl⟩))
  go_end0
  exact ⟨rfl, ⟨_, _, _, H1.out.set 0 (by omega) _ _ s.cyc false rfl (ok_A H1.out.ok eb.1 eb.2)⟩, (below_drewN (Below.refl B w) m).setCell (p := ⟨g, 0, none⟩) H1.out.lo _⟩
set_option maxHeartbeats 1000000 in
theorem eff_ror : EffC 108 (effIn .or) false := by
  intro B g s v ea ec fa fc ca cc w hl hs
  have HS := Lib.hid hs
  have cb := chn_bd hs.ok v
  have rb := hs.ok.2.A
  have ca0 := corr_bd rb.1 rb.2
  unfold effIn chB
  obtain ⟨x, hx⟩ : ∃ x, chn s v = x := ⟨_, rfl⟩
  rw [hx] at cb ⊢
  have bb := bitsW_bd .or (oCorr s.r.A) x
  have eb := ext_bd (bitsW .or (oCorr s.r.A) x)
  unfold bitsW at *
  have HX := Lib.hid hx
  clear hs hx
  go_enter Tryz.func108, Tryz.ntmps108
  go_wp2_with (first
    | (go_at_call 154; refine (word_any B g s false v ea ec fa fc ca cc _ HS.out).mono ?_; rintro e w0 ⟨rfl, rfl⟩)
    | (go_at_call 157; refine (input_any B g s false v ea ec fa fc ca cc x HX.out _ HS.out).mono ?_; rintro e w1 ⟨rfl, m, rfl⟩; (obtain ⟨vC, vO, vR, h1⟩ := HS.out.below (below_drewN (Below.refl w.heap.size w) m) (Nat.le_refl _)); (have H1 := Lib.hid h1); (have c0 := h1.b.cell 0 _ rfl); (have f0 := h1.b.free 0 _ rfl); clear h1)
    | (go_at_call 26; refine (Extend_any _ (by omega) (by omega) _).mono ?_; rintro e w2 ⟨rfl, rfl⟩))
  go_end0
  exact ⟨rfl, ⟨_, _, _, H1.out.set 0 (by omega) _ _ s.cyc false rfl (ok_A H1.out.ok eb.1 eb.2)⟩, (below_drewN (Below.refl B w) m).setCell (p := ⟨g, 0, none⟩) H1.out.lo _⟩
set_option maxHeartbeats 1000000 in
theorem eff_rxor : EffC 110 (effIn .xor) false := by
  intro B g s v ea ec fa fc ca cc w hl hs
  have HS := Lib.hid hs
  have cb := chn_bd hs.ok v
  have rb := hs.ok.2.A
  have ca0 := corr_bd rb.1 rb.2
  unfold effIn chB
  obtain ⟨x, hx⟩ : ∃ x, chn s v = x := ⟨_, rfl⟩
  rw [hx] at cb ⊢
  have bb := bitsW_bd .xor (oCorr s.r.A) x
  have eb := ext_bd (bitsW .xor (oCorr s.r.A) x)
  unfold bitsW at *
  have HX := Lib.hid hx
  clear hs hx
  go_enter Tryz.func110, Tryz.ntmps110
  go_wp2_with (first
    | (go_at_call 154; refine (word_any B g s false v ea ec fa fc ca cc _ HS.out).mono ?_; rintro e w0 ⟨rfl, rfl⟩)
    | (go_at_call 157; refine (input_any B g s false v ea ec fa fc ca cc x HX.out _ HS.out).mono ?_; rintro e w1 ⟨rfl, m, rfl⟩; (obtain ⟨vC, vO, vR, h1⟩ := HS.out.below (below_drewN (Below.refl w.heap.size w) m) (Nat.le_refl _)); (have H1 := Lib.hid h1); (have c0 := h1.b.cell 0 _ rfl); (have f0 := h1.b.free 0 _ rfl); clear h1)
    | (go_at_call 26; refine (Extend_any _ (by omega) (by omega) _).mono ?_; rintro e w2 ⟨rfl, rfl⟩))
  go_end0
  exact ⟨rfl, ⟨_, _, _, H1.out.set 0 (by omega) _ _ s.cyc false rfl (ok_A H1.out.ok eb.1 eb.2)⟩, (below_drewN (Below.refl B w) m).setCell (p := ⟨g, 0, none⟩) H1.out.lo _⟩
set_option maxHeartbeats 1000000 in
theorem keep_any (B g : Nat) (s : St) (v : Vw) (ea : Option Addr) (ec : Nat) (fa : Option Addr) (fc : Nat) (ca : Option Addr) (cc : Nat) (x : Int) (x0 : 0 ≤ x) (x1 : x ≤ 32767) (hl : s.len ≤ 950) (w : World) (hs : HAt w B g s false v ea ec fa fc ca cc) :
    Calls Tryz.prog 159 #[.pointer (some ⟨g, 0, none⟩), .int .u16 x] w fun e w' => e = .returned (.tuple #[]) ∧ HAt w' B g ((s.out x).setA (oExt x)) false v ea ec fa fc ca cc ∧ Below B w w' := by
  have HS := Lib.hid hs
  have eb := ext_bd x
  clear hs
  go_enter Tryz.func159, Tryz.ntmps159
  go_wp2_with (first
    | (go_at_call 158; refine (output_any B g s false v ea ec fa fc ca cc x x0 x1 (by omega) _ HS.out).mono ?_; rintro e w2 ⟨rfl, ⟨vC, vO, vR, h5⟩, hb⟩; (have H5 := Lib.hid h5); (have c0 := h5.b.cell 0 _ rfl); (have f0 := h5.b.free 0 _ rfl); (have X4 := Lib.hid hb); clear h5 hb)
    | (go_at_call 26; refine (Extend_any _ (by omega) (by omega) _).mono ?_; rintro e w2 ⟨rfl, rfl⟩))
  go_end0
  exact ⟨rfl, ⟨_, _, _, H5.out.set 0 (by omega) _ _ _ false rfl (ok_A H5.out.ok eb.1 eb.2)⟩, X4.out.setCell (p := ⟨g, 0, none⟩) H5.out.lo _⟩
theorem land_le (a b : Nat) (h : b ≤ 32767) : a &&& b ≤ 32767 := Nat.le_trans Nat.and_le_right h
theorem lor_le (a b : Nat) (ha : a ≤ 32767) (h : b ≤ 32767) : a ||| b ≤ 32767 := by
  have := Nat.or_lt_two_pow (n := 15) (x := a) (y := b) (by omega) (by omega); omega
theorem lxor_le (a b : Nat) (ha : a ≤ 32767) (h : b ≤ 32767) : a ^^^ b ≤ 32767 := by
  have := Nat.xor_lt_two_pow (n := 15) (x := a) (y := b) (by omega) (by omega); omega
theorem bitsW_word (f : BinOp) (hf : f = .and ∨ f = .or ∨ f = .xor) (a b : Int) (a0 : 0 ≤ a) (a1 : a ≤ 32767) (b0 : 0 ≤ b) (b1 : b ≤ 32767) : 0 ≤ bitsW f a b ∧ bitsW f a b ≤ 32767 := by
  obtain ⟨m, rfl⟩ := Int.eq_ofNat_of_zero_le a0
  obtain ⟨n, rfl⟩ := Int.eq_ofNat_of_zero_le b0
  have hm : m ≤ 32767 := by omega
  have hn : n ≤ 32767 := by omega
  have e1 : (BitVec.ofInt 16 (m : Int)).toNat = m := by simp [BitVec.toNat_ofInt]; omega
  have e2 : (BitVec.ofInt 16 (n : Int)).toNat = n := by simp [BitVec.toNat_ofInt]; omega
  have l1 := land_le m n hn
  have l2 := lor_le m n hm hn
  have l3 := lxor_le m n hm hn
  refine ⟨(bitsW_bd f _ _).1, ?_⟩
  unfold bitsW bits
  rcases hf with rfl | rfl | rfl
  · show IntKind.u16.wrap ((BitVec.ofInt 16 (m : Int) &&& BitVec.ofInt 16 (n : Int)).toNat : Int) ≤ 32767
    rw [BitVec.toNat_and, e1, e2, IntWalk.u16_in _ (by omega)]; omega
  · show IntKind.u16.wrap ((BitVec.ofInt 16 (m : Int) ||| BitVec.ofInt 16 (n : Int)).toNat : Int) ≤ 32767
    rw [BitVec.toNat_or, e1, e2, IntWalk.u16_in _ (by omega)]; omega
  · show IntKind.u16.wrap ((BitVec.ofInt 16 (m : Int) ^^^ BitVec.ofInt 16 (n : Int)).toNat : Int) ≤ 32767
    rw [BitVec.toNat_xor, e1, e2, IntWalk.u16_in _ (by omega)]; omega
set_option maxHeartbeats 1000000 in
theorem eff_wand : EffC 107 (effOut .and) false := by
  intro B g s v ea ec fa fc ca cc w hl hs
  have HS := Lib.hid hs
  have cb := chn_bd hs.ok v
  have rb := hs.ok.2.A
  have ca0 := corr_bd rb.1 rb.2
  unfold effOut chB
  obtain ⟨x, hx⟩ : ∃ x, chn s v = x := ⟨_, rfl⟩
  rw [hx] at cb ⊢
  have bb := bitsW_word .and (.inl rfl) (oCorr s.r.A) x ca0.1 ca0.2 cb.1 cb.2
  unfold bitsW at *
  have HX := Lib.hid hx
  clear hs hx
  go_enter Tryz.func107, Tryz.ntmps107
  go_wp2_with (first
    | (go_at_call 154; refine (word_any B g s false v ea ec fa fc ca cc _ HS.out).mono ?_; rintro e w0 ⟨rfl, rfl⟩)
    | (go_at_call 157; refine (input_any B g s false v ea ec fa fc ca cc x HX.out _ HS.out).mono ?_; rintro e w1 ⟨rfl, m, rfl⟩; (have H1 := Lib.hid (HS.out.below (below_drewN (Below.refl w.heap.size w) m) (Nat.le_refl _))))
    | (go_at_call 159; refine (keep_any B g s v ea ec fa fc ca cc _ bb.1 bb.2 (by omega) _ H1.out).mono ?_; rintro e w2 ⟨rfl, h2, hb⟩))
  go_end0
  exact ⟨rfl, h2, (below_drewN (Below.refl B w) m).trans hb⟩
set_option maxHeartbeats 1000000 in
theorem eff_wor : EffC 109 (effOut .or) false := by
  intro B g s v ea ec fa fc ca cc w hl hs
  have HS := Lib.hid hs
  have cb := chn_bd hs.ok v
  have rb := hs.ok.2.A
  have ca0 := corr_bd rb.1 rb.2
  unfold effOut chB
  obtain ⟨x, hx⟩ : ∃ x, chn s v = x := ⟨_, rfl⟩
  rw [hx] at cb ⊢
  have bb := bitsW_word .or (.inr (.inl rfl)) (oCorr s.r.A) x ca0.1 ca0.2 cb.1 cb.2
  unfold bitsW at *
  have HX := Lib.hid hx
  clear hs hx
  go_enter Tryz.func109, Tryz.ntmps109
  go_wp2_with (first
    | (go_at_call 154; refine (word_any B g s false v ea ec fa fc ca cc _ HS.out).mono ?_; rintro e w0 ⟨rfl, rfl⟩)
    | (go_at_call 157; refine (input_any B g s false v ea ec fa fc ca cc x HX.out _ HS.out).mono ?_; rintro e w1 ⟨rfl, m, rfl⟩; (have H1 := Lib.hid (HS.out.below (below_drewN (Below.refl w.heap.size w) m) (Nat.le_refl _))))
    | (go_at_call 159; refine (keep_any B g s v ea ec fa fc ca cc _ bb.1 bb.2 (by omega) _ H1.out).mono ?_; rintro e w2 ⟨rfl, h2, hb⟩))
  go_end0
  exact ⟨rfl, h2, (below_drewN (Below.refl B w) m).trans hb⟩
set_option maxHeartbeats 2000000 in
theorem eff_ts : EffC 166 (fun s v => effTS s) false := by
  intro B g s v ea ec fa fc ca cc w hl hs
  have HS := Lib.hid hs
  obtain ⟨vC, vO, vR, h0⟩ := hs
  have c0 := h0.b.cell 0 _ rfl
  have c18 := h0.b.cell 18 _ rfl
  have rb := h0.ok.2.A
  clear h0
  have yb := sg_bd (oOver s.r.A)
  unfold effTS
  obtain ⟨y, hy⟩ : ∃ y, sg (oOver s.r.A) = y := ⟨_, rfl⟩
  rw [hy] at yb
  simp only [hy]
  have HY := Lib.hid hy
  clear hy
  by_cases d : s.sa = 0
  · have t1 : (s.sa == 0) = true := by rw [beq_iff_eq]; exact d
    simp only [if_pos d]
    clear d
    by_cases e : y = 0
    · have t2 : (y == 0) = true := by rw [beq_iff_eq]; exact e
      simp only [if_pos e]
      clear e
      go_enter Tryz.func166, Tryz.ntmps166
      go_wp2_with (go_at_call 188; refine (overUnit_any _ (by omega) (by omega) _).mono ?_; rintro e w1 ⟨rfl, rfl⟩; rw [HY.out])
      refine bodyPost_ret (results_none (by kernel_rfl) _ _ _) rfl ?_
      exact ⟨rfl, HS.out, Below.refl _ _⟩
    · have t2 : (y == 0) = false := by rw [beq_eq_false_iff_ne]; exact e
      simp only [if_neg e]
      clear e
      go_enter Tryz.func166, Tryz.ntmps166
      go_wp2_with (first
        | (go_at_call 188; refine (overUnit_any _ (by omega) (by omega) _).mono ?_; rintro e w1 ⟨rfl, rfl⟩; rw [HY.out])
        | (go_at_call 186; refine (mskip_any B g s false v ea ec fa fc ca cc 1 (by omega) (by omega) _ HS.out).mono ?_; rintro e w4 ⟨rfl, h4, hb⟩))
      go_end0
      exact ⟨rfl, h4, hb⟩
  · have t1 : (s.sa == 0) = false := by rw [beq_eq_false_iff_ne]; exact d
    simp only [if_neg d]
    clear d
    by_cases e : y = 0
    · have t2 : (y == 0) = true := by rw [beq_iff_eq]; exact e
      simp only [if_pos e]
      clear e
      go_enter Tryz.func166, Tryz.ntmps166
      go_wp2_with (first
        | (go_at_call 188; refine (overUnit_any _ (by omega) (by omega) _).mono ?_; rintro e w1 ⟨rfl, rfl⟩; rw [HY.out])
        | (go_at_call 190; refine (put_any B g s false v ea ec fa fc ca cc s.r.A rb.1 rb.2 (by omega) _ HS.out).mono ?_; rintro e w4 ⟨rfl, h4, hb⟩))
      refine bodyPost_ret (results_none (by kernel_rfl) _ _ _) rfl ?_
      exact ⟨rfl, h4, hb⟩
    · have t2 : (y == 0) = false := by rw [beq_eq_false_iff_ne]; exact e
      simp only [if_neg e]
      clear e
      go_enter Tryz.func166, Tryz.ntmps166
      go_wp2_with (first
        | (go_at_call 188; refine (overUnit_any _ (by omega) (by omega) _).mono ?_; rintro e w1 ⟨rfl, rfl⟩; rw [HY.out])
        | (go_at_call 190; refine (put_any B g s false v ea ec fa fc ca cc s.r.A rb.1 rb.2 (by omega) _ HS.out).mono ?_; rintro e w4 ⟨rfl, h4, hb⟩; (have H4 := Lib.hid h4); (have X4 := Lib.hid hb); clear h4 hb)
        | (go_at_call 186; refine (mskip_any B g (s.put s.sa s.r.A) false v ea ec fa fc ca cc 1 (by omega) (by omega) _ H4.out).mono ?_; rintro e w5 ⟨rfl, ⟨vC, vO, vR, h5⟩, hb⟩; (have H5 := Lib.hid h5); (have c0 := h5.b.cell 0 _ rfl); (have f0 := h5.b.free 0 _ rfl); (have X5 := Lib.hid (X4.out.trans hb)); clear h5 hb))
      go_end0
      exact ⟨rfl, ⟨_, _, _, H5.out.set 0 (by omega) _ _ _ false rfl (ok_A H5.out.ok yb.1 yb.2)⟩, X5.out.setCell (p := ⟨g, 0, none⟩) H5.out.lo _⟩
end Go.Proofs.YtjjkikghfmnikaaGreatDoor
