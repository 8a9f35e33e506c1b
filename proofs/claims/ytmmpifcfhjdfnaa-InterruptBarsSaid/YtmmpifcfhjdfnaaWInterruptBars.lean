/- The walk of InterruptBars. -/
import Derived.Test.YtmmpifcfhjdfnaaW07a
import Derived.Test.YtmmpifcfhjdfnaaP07c
set_option linter.unusedSimpArgs false
set_option linter.unusedVariables false
set_option maxRecDepth 100000
namespace Go.Proofs.Ytmmpifcfhjdfnaa
open Go.ChangeShapes Go.WideShapes Go.ChangeAt Go.RowKit Go.Shelf
set_option maxHeartbeats 4000000 in
theorem interruptBars_walk (a f p : Int) (w_a : (Lit.int .u16 a).wf = true) (w_f : (Lit.int .u8 f).wf = true) (w_p : (Lit.int .u16 p).wf = true) (w : World) :
    Calls Try.prog 5 #[.int .u16 a, .int .u8 f, .agg #[.int .u16 p]] w fun e w' => e = .returned (.bool true) ∧ Below w.heap.size w w' := by
  obtain ⟨a0, a1⟩ := bounds_u16 w_a
  obtain ⟨f0, f1⟩ := bounds_u8 w_f
  obtain ⟨p0, p1⟩ := bounds_u16 w_p
  clear w_a w_f w_p
  replace a1 : a < 65536 := by omega
  replace f1 : f < 256 := by omega
  replace p1 : p < 65536 := by omega
  have h5 := u8_low f f0 f1
  have hs := u8_one (f / 16) (by omega) (by omega)
  have hpp := and2046 p p0 p1
  have hsb := sB10 (pb p)
  have hal := flR_alw a f a0 a1 f0 f1
  have hfit := flR_fit a f a0 a1
  have hfz := fs_zero p
  generalize sB (pb p) 10 = s at *
  by_cases cz : f % 32 = 0
  · have hz : (f % 32 == 0) = true := by simp [cz]
    by_cases cm : 16384 ≤ a ∧ a < 49152
    · rw [decide_eq_false (by omega)] at hal
      have hch : chz p (flR a f) = 0 := by unfold chz; rw [hal]; rfl
      have e1 : ¬ a < 16384 := by omega
      have e2 : ¬ 49152 ≤ a := by omega
      clear cm cz
      have HA := Lib.hid (fun w => Allowed_any (flR a f) hfit false hal w)
      have HC := Lib.hid (fun w => Choose_any p p0 p1 (flR a f) hfit 0 hch false rfl w)
      clear hfit hal hch hfz hsb
      go_enter Try.func5, Try.ntmps5
      go_wp2_with (fail)
      refine (HC.out _).mono ?_
      rintro e w1 ⟨rfl, hb⟩
      have B0 := ((Blk.new w 28 [.int .u16 p] _ rfl).alloc (by simp) (.cells #[.int .u16 a, .int .u16 0, .int .u16 0, .int .i64 0, .int .i64 0, .int .i64 0, .int .i64 0, .bool (bits .and .u8 f 4 != 0), .int .u16 (f / 16 % 2), .bool (bits .and .u8 f 8 != 0), .int .u16 0, .bool (bits .and .u8 f 1 != 0), .bool (bits .and .u8 f 2 != 0)] 26)).below hb (by simp; omega)
      have B1 := (Blk.new (w.alloc (.cells #[.int .u16 p] 28)) 26 [.int .u16 a, .int .u16 0, .int .u16 0, .int .i64 0, .int .i64 0, .int .i64 0, .int .i64 0, .bool (bits .and .u8 f 4 != 0), .int .u16 (f / 16 % 2), .bool (bits .and .u8 f 8 != 0), .int .u16 0, .bool (bits .and .u8 f 1 != 0), .bool (bits .and .u8 f 2 != 0)] (w.heap.size + 1) (by simp)).below hb (by simp)
      have X1 := Lib.hid ((below2 w (.cells #[.int .u16 p] 28) (.cells #[.int .u16 a, .int .u16 0, .int .u16 0, .int .i64 0, .int .i64 0, .int .i64 0, .int .i64 0, .bool (bits .and .u8 f 4 != 0), .int .u16 (f / 16 % 2), .bool (bits .and .u8 f 8 != 0), .int .u16 0, .bool (bits .and .u8 f 1 != 0), .bool (bits .and .u8 f 2 != 0)] 26)).trans (hb.mono (by simp; omega)))
      have c0 := B0.cell 0 _ rfl
      have hz0 : w.heap.size + 1 < w1.heap.size := by have := hb.size; simp at this; omega
      have d0 := B1.cell 0 _ rfl; have d1 := B1.cell 1 _ rfl; have d2 := B1.cell 2 _ rfl; have d3 := B1.cell 3 _ rfl; have d4 := B1.cell 4 _ rfl; have d5 := B1.cell 5 _ rfl; have d6 := B1.cell 6 _ rfl; have d7 := B1.cell 7 _ rfl; have d8 := B1.cell 8 _ rfl; have d9 := B1.cell 9 _ rfl; have d10 := B1.cell 10 _ rfl; have d11 := B1.cell 11 _ rfl; have d12 := B1.cell 12 _ rfl
      have HB0 := Lib.hid B0
      clear hb B0 B1
      go_wp2_with (first | (go_at_call 18; refine (HA.out _).mono ?_; rintro e w2 ⟨rfl, hb⟩; (have X2 := Lib.hid (X1.out.trans (hb.mono X1.out.size))); clear hb) | (go_at_call 12; refine (works7_any _).mono ?_; rintro e w3 ⟨rfl, hb⟩; (have X3 := Lib.hid (X2.out.trans (hb.mono X2.out.size))); clear hb))
      go_ret
      exact ⟨rfl, X3.out⟩
    · rw [decide_eq_true (by omega)] at hal
      have hch : chz p (flR a f) = fs p 10 := by unfold chz; rw [if_pos hal]
      by_cases cf : fs p 10 = 0
      · rw [cf] at hch
        have hs0 : s = 0 := hfz.1 cf
        subst hs0
        have hne : (((0 : Nat) : Int) != 0) = false := rfl
        have HA := Lib.hid (fun w => Allowed_any (flR a f) hfit true hal w)
        have HC := Lib.hid (fun w => Choose_any p p0 p1 (flR a f) hfit 0 hch false rfl w)
        clear hfit hal hch hfz hsb cz
        by_cases e1 : a < 16384
        · clear cm
          go_enter Try.func5, Try.ntmps5
          go_wp2_with (fail)
          refine (HC.out _).mono ?_
          rintro e w1 ⟨rfl, hb⟩
          have B0 := ((Blk.new w 28 [.int .u16 p] _ rfl).alloc (by simp) (.cells #[.int .u16 a, .int .u16 0, .int .u16 0, .int .i64 0, .int .i64 0, .int .i64 0, .int .i64 0, .bool (bits .and .u8 f 4 != 0), .int .u16 (f / 16 % 2), .bool (bits .and .u8 f 8 != 0), .int .u16 0, .bool (bits .and .u8 f 1 != 0), .bool (bits .and .u8 f 2 != 0)] 26)).below hb (by simp; omega)
          have B1 := (Blk.new (w.alloc (.cells #[.int .u16 p] 28)) 26 [.int .u16 a, .int .u16 0, .int .u16 0, .int .i64 0, .int .i64 0, .int .i64 0, .int .i64 0, .bool (bits .and .u8 f 4 != 0), .int .u16 (f / 16 % 2), .bool (bits .and .u8 f 8 != 0), .int .u16 0, .bool (bits .and .u8 f 1 != 0), .bool (bits .and .u8 f 2 != 0)] (w.heap.size + 1) (by simp)).below hb (by simp)
          have X1 := Lib.hid ((below2 w (.cells #[.int .u16 p] 28) (.cells #[.int .u16 a, .int .u16 0, .int .u16 0, .int .i64 0, .int .i64 0, .int .i64 0, .int .i64 0, .bool (bits .and .u8 f 4 != 0), .int .u16 (f / 16 % 2), .bool (bits .and .u8 f 8 != 0), .int .u16 0, .bool (bits .and .u8 f 1 != 0), .bool (bits .and .u8 f 2 != 0)] 26)).trans (hb.mono (by simp; omega)))
          have c0 := B0.cell 0 _ rfl
          have hz0 : w.heap.size + 1 < w1.heap.size := by have := hb.size; simp at this; omega
          have d0 := B1.cell 0 _ rfl; have d1 := B1.cell 1 _ rfl; have d2 := B1.cell 2 _ rfl; have d3 := B1.cell 3 _ rfl; have d4 := B1.cell 4 _ rfl; have d5 := B1.cell 5 _ rfl; have d6 := B1.cell 6 _ rfl; have d7 := B1.cell 7 _ rfl; have d8 := B1.cell 8 _ rfl; have d9 := B1.cell 9 _ rfl; have d10 := B1.cell 10 _ rfl; have d11 := B1.cell 11 _ rfl; have d12 := B1.cell 12 _ rfl
          have HB0 := Lib.hid B0
          clear hb B0 B1
          go_wp2_with (first | (go_at_call 18; refine (HA.out _).mono ?_; rintro e w2 ⟨rfl, hb⟩; (have X2 := Lib.hid (X1.out.trans (hb.mono X1.out.size))); clear hb) | (go_at_call 12; refine (works7_any _).mono ?_; rintro e w3 ⟨rfl, hb⟩; (have X3 := Lib.hid (X2.out.trans (hb.mono X2.out.size))); clear hb))
          go_ret
          exact ⟨rfl, X3.out⟩
        · have e2 : 49152 ≤ a := by omega
          clear cm
          go_enter Try.func5, Try.ntmps5
          go_wp2_with (fail)
          refine (HC.out _).mono ?_
          rintro e w1 ⟨rfl, hb⟩
          have B0 := ((Blk.new w 28 [.int .u16 p] _ rfl).alloc (by simp) (.cells #[.int .u16 a, .int .u16 0, .int .u16 0, .int .i64 0, .int .i64 0, .int .i64 0, .int .i64 0, .bool (bits .and .u8 f 4 != 0), .int .u16 (f / 16 % 2), .bool (bits .and .u8 f 8 != 0), .int .u16 0, .bool (bits .and .u8 f 1 != 0), .bool (bits .and .u8 f 2 != 0)] 26)).below hb (by simp; omega)
          have B1 := (Blk.new (w.alloc (.cells #[.int .u16 p] 28)) 26 [.int .u16 a, .int .u16 0, .int .u16 0, .int .i64 0, .int .i64 0, .int .i64 0, .int .i64 0, .bool (bits .and .u8 f 4 != 0), .int .u16 (f / 16 % 2), .bool (bits .and .u8 f 8 != 0), .int .u16 0, .bool (bits .and .u8 f 1 != 0), .bool (bits .and .u8 f 2 != 0)] (w.heap.size + 1) (by simp)).below hb (by simp)
          have X1 := Lib.hid ((below2 w (.cells #[.int .u16 p] 28) (.cells #[.int .u16 a, .int .u16 0, .int .u16 0, .int .i64 0, .int .i64 0, .int .i64 0, .int .i64 0, .bool (bits .and .u8 f 4 != 0), .int .u16 (f / 16 % 2), .bool (bits .and .u8 f 8 != 0), .int .u16 0, .bool (bits .and .u8 f 1 != 0), .bool (bits .and .u8 f 2 != 0)] 26)).trans (hb.mono (by simp; omega)))
          have c0 := B0.cell 0 _ rfl
          have hz0 : w.heap.size + 1 < w1.heap.size := by have := hb.size; simp at this; omega
          have d0 := B1.cell 0 _ rfl; have d1 := B1.cell 1 _ rfl; have d2 := B1.cell 2 _ rfl; have d3 := B1.cell 3 _ rfl; have d4 := B1.cell 4 _ rfl; have d5 := B1.cell 5 _ rfl; have d6 := B1.cell 6 _ rfl; have d7 := B1.cell 7 _ rfl; have d8 := B1.cell 8 _ rfl; have d9 := B1.cell 9 _ rfl; have d10 := B1.cell 10 _ rfl; have d11 := B1.cell 11 _ rfl; have d12 := B1.cell 12 _ rfl
          have HB0 := Lib.hid B0
          clear hb B0 B1
          go_wp2_with (first | (go_at_call 18; refine (HA.out _).mono ?_; rintro e w2 ⟨rfl, hb⟩; (have X2 := Lib.hid (X1.out.trans (hb.mono X1.out.size))); clear hb) | (go_at_call 12; refine (works7_any _).mono ?_; rintro e w3 ⟨rfl, hb⟩; (have X3 := Lib.hid (X2.out.trans (hb.mono X2.out.size))); clear hb))
          go_ret
          exact ⟨rfl, X3.out⟩
      · obtain ⟨n, hn⟩ : ∃ n, fs p 10 = n := ⟨_, rfl⟩
        have hsp := fs_spec p 10
        rw [hn] at hch cf hsp
        have hne : ((s : Int) != 0) = true := by
          rw [bne_iff_ne]
          intro e
          exact cf (by rw [← hn]; exact hfz.2 (by omega))
        rcases hsp with ⟨e, _⟩ | ⟨q1, q2, q3, q4⟩
        · exact absurd e cf
        have HN1 := Lib.hid q1
        have HN2 := Lib.hid q2
        have HN3 := Lib.hid q3
        have HN4 := Lib.hid q4
        have hn0 : (n == 0) = false := by rw [beq_eq_false_iff_ne]; exact cf
        have HA := Lib.hid (fun w => Allowed_any (flR a f) hfit true hal w)
        have HC := Lib.hid (fun w => Choose_any p p0 p1 (flR a f) hfit n hch true (by simp [cf]) w)
        clear hfit hal hch hfz hsb cz hn q1 q2 q3 q4 cf hn0
        by_cases e1 : a < 16384
        · clear cm
          go_enter Try.func5, Try.ntmps5
          go_wp2_with (fail)
          refine (HC.out _).mono ?_
          rintro e w1 ⟨rfl, hb⟩
          have B0 := ((Blk.new w 28 [.int .u16 p] _ rfl).alloc (by simp) (.cells #[.int .u16 a, .int .u16 0, .int .u16 0, .int .i64 0, .int .i64 0, .int .i64 0, .int .i64 0, .bool (bits .and .u8 f 4 != 0), .int .u16 (f / 16 % 2), .bool (bits .and .u8 f 8 != 0), .int .u16 0, .bool (bits .and .u8 f 1 != 0), .bool (bits .and .u8 f 2 != 0)] 26)).below hb (by simp; omega)
          have B1 := (Blk.new (w.alloc (.cells #[.int .u16 p] 28)) 26 [.int .u16 a, .int .u16 0, .int .u16 0, .int .i64 0, .int .i64 0, .int .i64 0, .int .i64 0, .bool (bits .and .u8 f 4 != 0), .int .u16 (f / 16 % 2), .bool (bits .and .u8 f 8 != 0), .int .u16 0, .bool (bits .and .u8 f 1 != 0), .bool (bits .and .u8 f 2 != 0)] (w.heap.size + 1) (by simp)).below hb (by simp)
          have X1 := Lib.hid ((below2 w (.cells #[.int .u16 p] 28) (.cells #[.int .u16 a, .int .u16 0, .int .u16 0, .int .i64 0, .int .i64 0, .int .i64 0, .int .i64 0, .bool (bits .and .u8 f 4 != 0), .int .u16 (f / 16 % 2), .bool (bits .and .u8 f 8 != 0), .int .u16 0, .bool (bits .and .u8 f 1 != 0), .bool (bits .and .u8 f 2 != 0)] 26)).trans (hb.mono (by simp; omega)))
          have c0 := B0.cell 0 _ rfl
          have hz0 : w.heap.size + 1 < w1.heap.size := by have := hb.size; simp at this; omega
          have d0 := B1.cell 0 _ rfl; have d1 := B1.cell 1 _ rfl; have d2 := B1.cell 2 _ rfl; have d3 := B1.cell 3 _ rfl; have d4 := B1.cell 4 _ rfl; have d5 := B1.cell 5 _ rfl; have d6 := B1.cell 6 _ rfl; have d7 := B1.cell 7 _ rfl; have d8 := B1.cell 8 _ rfl; have d9 := B1.cell 9 _ rfl; have d10 := B1.cell 10 _ rfl; have d11 := B1.cell 11 _ rfl; have d12 := B1.cell 12 _ rfl
          have HB0 := Lib.hid B0
          clear hb B0 B1
          go_wp2_with (go_at_call 18; refine (HA.out _).mono ?_; rintro e w2 ⟨rfl, hb⟩; (have X2 := Lib.hid (X1.out.trans (hb.mono X1.out.size))); (have HB2 := Lib.hid (HB0.out.below hb (by omega))); (have hz2 : w.heap.size < w2.heap.size := by have := hb.size; omega); clear hb)
          clear d0 d1 d2 d3 d4 d5 d6 d7 d8 d9 d10 d11 d12 c0 HB0 X1
          go_loopw [10] (fun i wr => ∃ k : Nat, 1 ≤ k ∧ k ≤ n ∧ i = .int .i64 k ∧ Hid (Blk wr w.heap.size [.int .u16 p]) ∧ w.heap.size < wr.heap.size ∧ Hid (Below w.heap.size w wr)) (fun i _ => n - (intOf i).toNat)
          case atStart => exact ⟨1, Nat.le_refl _, HN1.out, rfl, HB2, hz2, X2⟩
          case round =>
            obtain ⟨k, hk1, hk, rfl, HB, hzr, HX⟩ := hrel
            have c0 := HB.out.cell 0 _ rfl
            by_cases hlt : k < n
            · have HLT := Lib.hid hlt
              have hk10 : k ≤ 10 := by have := HN2.out; omega
              have HW := Lib.hid (fun w => Waits_yes p p0 p1 k hk1 (by have := HN2.out; omega) false (HN4.out k hk1 hlt) w)
              go_wp2_with (go_at_call 14; refine (HW.out _).mono ?_; rintro e w3 ⟨rfl, hb⟩; (have HB3 := Lib.hid (HB.out.below hb hzr)); (have hz3 : w.heap.size < w3.heap.size := Nat.lt_of_lt_of_le hzr hb.size); (have HX3 := Lib.hid (HX.out.trans (hb.mono HX.out.size))); clear hb)
              go_roundw
              case rel => exact ⟨k + 1, by omega, by have := HLT.out; omega, by go_num, HB3, hz3, HX3⟩
              case measure => have := HLT.out; simp [intOf]; omega
            · have e : k = n := by omega
              subst e
              have HW := Lib.hid (fun w => Waits_yes p p0 p1 k hk1 HN2.out true HN3.out w)
              go_wp2_with (first | (go_at_call 14; refine (HW.out _).mono ?_; rintro e w3 ⟨rfl, hb⟩; (have HX3 := Lib.hid (HX.out.trans (hb.mono HX.out.size))); clear hb) | (go_at_call 12; refine (works7_any _).mono ?_; rintro e w4 ⟨rfl, hb⟩; (have HX4 := Lib.hid (HX3.out.trans (hb.mono HX3.out.size))); clear hb))
              go_ret
              exact ⟨rfl, HX4.out⟩
        · have e2 : 49152 ≤ a := by omega
          clear cm
          go_enter Try.func5, Try.ntmps5
          go_wp2_with (fail)
          refine (HC.out _).mono ?_
          rintro e w1 ⟨rfl, hb⟩
          have B0 := ((Blk.new w 28 [.int .u16 p] _ rfl).alloc (by simp) (.cells #[.int .u16 a, .int .u16 0, .int .u16 0, .int .i64 0, .int .i64 0, .int .i64 0, .int .i64 0, .bool (bits .and .u8 f 4 != 0), .int .u16 (f / 16 % 2), .bool (bits .and .u8 f 8 != 0), .int .u16 0, .bool (bits .and .u8 f 1 != 0), .bool (bits .and .u8 f 2 != 0)] 26)).below hb (by simp; omega)
          have B1 := (Blk.new (w.alloc (.cells #[.int .u16 p] 28)) 26 [.int .u16 a, .int .u16 0, .int .u16 0, .int .i64 0, .int .i64 0, .int .i64 0, .int .i64 0, .bool (bits .and .u8 f 4 != 0), .int .u16 (f / 16 % 2), .bool (bits .and .u8 f 8 != 0), .int .u16 0, .bool (bits .and .u8 f 1 != 0), .bool (bits .and .u8 f 2 != 0)] (w.heap.size + 1) (by simp)).below hb (by simp)
          have X1 := Lib.hid ((below2 w (.cells #[.int .u16 p] 28) (.cells #[.int .u16 a, .int .u16 0, .int .u16 0, .int .i64 0, .int .i64 0, .int .i64 0, .int .i64 0, .bool (bits .and .u8 f 4 != 0), .int .u16 (f / 16 % 2), .bool (bits .and .u8 f 8 != 0), .int .u16 0, .bool (bits .and .u8 f 1 != 0), .bool (bits .and .u8 f 2 != 0)] 26)).trans (hb.mono (by simp; omega)))
          have c0 := B0.cell 0 _ rfl
          have hz0 : w.heap.size + 1 < w1.heap.size := by have := hb.size; simp at this; omega
          have d0 := B1.cell 0 _ rfl; have d1 := B1.cell 1 _ rfl; have d2 := B1.cell 2 _ rfl; have d3 := B1.cell 3 _ rfl; have d4 := B1.cell 4 _ rfl; have d5 := B1.cell 5 _ rfl; have d6 := B1.cell 6 _ rfl; have d7 := B1.cell 7 _ rfl; have d8 := B1.cell 8 _ rfl; have d9 := B1.cell 9 _ rfl; have d10 := B1.cell 10 _ rfl; have d11 := B1.cell 11 _ rfl; have d12 := B1.cell 12 _ rfl
          have HB0 := Lib.hid B0
          clear hb B0 B1
          go_wp2_with (go_at_call 18; refine (HA.out _).mono ?_; rintro e w2 ⟨rfl, hb⟩; (have X2 := Lib.hid (X1.out.trans (hb.mono X1.out.size))); (have HB2 := Lib.hid (HB0.out.below hb (by omega))); (have hz2 : w.heap.size < w2.heap.size := by have := hb.size; omega); clear hb)
          clear d0 d1 d2 d3 d4 d5 d6 d7 d8 d9 d10 d11 d12 c0 HB0 X1
          go_loopw [10] (fun i wr => ∃ k : Nat, 1 ≤ k ∧ k ≤ n ∧ i = .int .i64 k ∧ Hid (Blk wr w.heap.size [.int .u16 p]) ∧ w.heap.size < wr.heap.size ∧ Hid (Below w.heap.size w wr)) (fun i _ => n - (intOf i).toNat)
          case atStart => exact ⟨1, Nat.le_refl _, HN1.out, rfl, HB2, hz2, X2⟩
          case round =>
            obtain ⟨k, hk1, hk, rfl, HB, hzr, HX⟩ := hrel
            have c0 := HB.out.cell 0 _ rfl
            by_cases hlt : k < n
            · have HLT := Lib.hid hlt
              have hk10 : k ≤ 10 := by have := HN2.out; omega
              have HW := Lib.hid (fun w => Waits_yes p p0 p1 k hk1 (by have := HN2.out; omega) false (HN4.out k hk1 hlt) w)
              go_wp2_with (go_at_call 14; refine (HW.out _).mono ?_; rintro e w3 ⟨rfl, hb⟩; (have HB3 := Lib.hid (HB.out.below hb hzr)); (have hz3 : w.heap.size < w3.heap.size := Nat.lt_of_lt_of_le hzr hb.size); (have HX3 := Lib.hid (HX.out.trans (hb.mono HX.out.size))); clear hb)
              go_roundw
              case rel => exact ⟨k + 1, by omega, by have := HLT.out; omega, by go_num, HB3, hz3, HX3⟩
              case measure => have := HLT.out; simp [intOf]; omega
            · have e : k = n := by omega
              subst e
              have HW := Lib.hid (fun w => Waits_yes p p0 p1 k hk1 HN2.out true HN3.out w)
              go_wp2_with (first | (go_at_call 14; refine (HW.out _).mono ?_; rintro e w3 ⟨rfl, hb⟩; (have HX3 := Lib.hid (HX.out.trans (hb.mono HX.out.size))); clear hb) | (go_at_call 12; refine (works7_any _).mono ?_; rintro e w4 ⟨rfl, hb⟩; (have HX4 := Lib.hid (HX3.out.trans (hb.mono HX3.out.size))); clear hb))
              go_ret
              exact ⟨rfl, HX4.out⟩
  · have hz : (f % 32 == 0) = false := by simp [cz]
    rw [decide_eq_false (by omega)] at hal
    have hch : chz p (flR a f) = 0 := by unfold chz; rw [hal]; rfl
    clear cz
    have HA := Lib.hid (fun w => Allowed_any (flR a f) hfit false hal w)
    have HC := Lib.hid (fun w => Choose_any p p0 p1 (flR a f) hfit 0 hch false rfl w)
    clear hfit hal hch hfz hsb
    go_enter Try.func5, Try.ntmps5
    go_wp2_with (fail)
    refine (HC.out _).mono ?_
    rintro e w1 ⟨rfl, hb⟩
    have B0 := ((Blk.new w 28 [.int .u16 p] _ rfl).alloc (by simp) (.cells #[.int .u16 a, .int .u16 0, .int .u16 0, .int .i64 0, .int .i64 0, .int .i64 0, .int .i64 0, .bool (bits .and .u8 f 4 != 0), .int .u16 (f / 16 % 2), .bool (bits .and .u8 f 8 != 0), .int .u16 0, .bool (bits .and .u8 f 1 != 0), .bool (bits .and .u8 f 2 != 0)] 26)).below hb (by simp; omega)
    have B1 := (Blk.new (w.alloc (.cells #[.int .u16 p] 28)) 26 [.int .u16 a, .int .u16 0, .int .u16 0, .int .i64 0, .int .i64 0, .int .i64 0, .int .i64 0, .bool (bits .and .u8 f 4 != 0), .int .u16 (f / 16 % 2), .bool (bits .and .u8 f 8 != 0), .int .u16 0, .bool (bits .and .u8 f 1 != 0), .bool (bits .and .u8 f 2 != 0)] (w.heap.size + 1) (by simp)).below hb (by simp)
    have X1 := Lib.hid ((below2 w (.cells #[.int .u16 p] 28) (.cells #[.int .u16 a, .int .u16 0, .int .u16 0, .int .i64 0, .int .i64 0, .int .i64 0, .int .i64 0, .bool (bits .and .u8 f 4 != 0), .int .u16 (f / 16 % 2), .bool (bits .and .u8 f 8 != 0), .int .u16 0, .bool (bits .and .u8 f 1 != 0), .bool (bits .and .u8 f 2 != 0)] 26)).trans (hb.mono (by simp; omega)))
    have c0 := B0.cell 0 _ rfl
    have hz0 : w.heap.size + 1 < w1.heap.size := by have := hb.size; simp at this; omega
    have d0 := B1.cell 0 _ rfl; have d1 := B1.cell 1 _ rfl; have d2 := B1.cell 2 _ rfl; have d3 := B1.cell 3 _ rfl; have d4 := B1.cell 4 _ rfl; have d5 := B1.cell 5 _ rfl; have d6 := B1.cell 6 _ rfl; have d7 := B1.cell 7 _ rfl; have d8 := B1.cell 8 _ rfl; have d9 := B1.cell 9 _ rfl; have d10 := B1.cell 10 _ rfl; have d11 := B1.cell 11 _ rfl; have d12 := B1.cell 12 _ rfl
    have HB0 := Lib.hid B0
    clear hb B0 B1
    go_wp2_with (first | (go_at_call 18; refine (HA.out _).mono ?_; rintro e w2 ⟨rfl, hb⟩; (have X2 := Lib.hid (X1.out.trans (hb.mono X1.out.size))); clear hb) | (go_at_call 12; refine (works7_any _).mono ?_; rintro e w3 ⟨rfl, hb⟩; (have X3 := Lib.hid (X2.out.trans (hb.mono X2.out.size))); clear hb))
    go_ret
    exact ⟨rfl, X3.out⟩
end Go.Proofs.Ytmmpifcfhjdfnaa
