/- The walk of IsaCounts. -/
import Derived.Test.YtjkdojdkmgaofaaDoorL04g
import Derived.Test.YtjkdojdkmgaofaaDoorP04d
import Derived.Deep.RegionWith
set_option linter.unusedSimpArgs false
set_option linter.unusedVariables false
namespace Go.Proofs.YtjkdojdkmgaofaaDoor
open Go.ChangeShapes Go.WideShapes Go.ChangeAt Go.RowKit
set_option maxRecDepth 100000 in
set_option maxHeartbeats 3000000 in
theorem isaCounts_walk (w : World) (hL : Lay w) : Calls Tryd.prog 9 #[] w fun e w' => e = .returned (.bool true) ∧ Below w.heap.size w w' := by
  have HL := Lib.hid hL
  clear hL
  obtain ⟨M, hM⟩ : ∃ M : Nat, M = 32768 := ⟨_, rfl⟩
  have HM := Lib.hid hM
  clear hM
  go_enter Tryd.func9, Tryd.ntmps9
  go_wp2
  go_loopw [2] (fun i wr => ∃ z : Nat, z ≤ M ∧ i = .int .i64 z ∧ Arr .i64 52 wr w.heap.size w.heap.size 40 40 (cntF z) ∧ Below w.heap.size w wr) (fun i _ => M - (intOf i).toNat)
  case atStart =>
    refine ⟨0, Nat.zero_le _, rfl, ?_, (Below.refl _ _).alloc (Nat.le_refl _) _⟩
    exact World.ownsRow_lit (base := w.heap.size) (e := 52) (size := 1) w _ 40 (Nat.le_refl _) (by unfold maxLen; omega) rfl
  case round =>
    obtain ⟨z, hz, rfl, oa, hb⟩ := hrel
    have XA := Lib.hid oa
    have XB := Lib.hid hb
    have HLW := Lib.hid (HL.out.below XB.out)
    have hz0 := oa.lt.2
    clear oa hb
    have hM := HM.out
    by_cases hlt : z < M
    · obtain ⟨i, hi⟩ : ∃ i, decI z false = i := ⟨_, rfl⟩
      obtain ⟨j, hj⟩ : ∃ j, decI z true = j := ⟨_, rfl⟩
      have li : i < 19 := by rw [← hi]; exact decI_low z
      have lj : 19 ≤ j ∧ j < 39 := by rw [← hj]; exact decI_high z
      have HI := Lib.hid hi
      have HJ := Lib.hid hj
      have hn2 := cntF_two z i j hi hj (by omega)
      have bi := cntF_bd z (i + 1)
      have bj := cntF_bd z (j + 1)
      obtain ⟨p, hp⟩ : ∃ p : Nat, i + 1 = p := ⟨_, rfl⟩
      obtain ⟨q, hq⟩ : ∃ q : Nat, j + 1 = q := ⟨_, rfl⟩
      rw [hp] at hn2 bi
      rw [hq] at hn2 bj
      have ci := XA.out.cell (show p < 40 by omega)
      have cj := XA.out.cell (show q < 40 by omega)
      have fi := XA.out.free p
      have fj := XA.out.free q
      have hij : p ≠ q := by omega
      have hlt2 : (z : Int) < 32768 := by omega
      obtain ⟨ni, hni⟩ : ∃ ni, cntF z p = ni := ⟨_, rfl⟩
      obtain ⟨mj, hmj⟩ : ∃ mj, cntF z q = mj := ⟨_, rfl⟩
      rw [hni] at hn2 bi ci
      rw [hmj] at hn2 bj cj
      have HN := Lib.hid hn2
      have HNI := Lib.hid hni
      have HMJ := Lib.hid hmj
      have HP := Lib.hid hp
      have HQ := Lib.hid hq
      have ZB : Hid ((z : Int) ≤ 32767) := (show (z : Int) ≤ 32767 by omega)
      have p1 : 1 ≤ p ∧ p ≤ 19 := by omega
      have q1 : 20 ≤ q ∧ q ≤ 39 := by omega
      have ei : IntKind.i64.wrap (ni + 1) = ni + 1 := IntWalk.i64_in _ (by omega)
      have ej : IntKind.i64.wrap (mj + 1) = mj + 1 := IntWalk.i64_in _ (by omega)
      have ez : IntKind.u16.wrap (z : Int) = z := IntWalk.u16_in _ (by omega)
      have e9 : IntKind.i64.wrap ((z : Int) + 1) = (z : Int) + 1 := IntWalk.i64_in _ (by omega)
      clear hi hj hn2 hni hmj hp hq hz hM li lj
      go_wp2_with (first
        | (go_at_call_of 23 (Value.bool false); refine (Decode_yes z (by omega) ZB.out false i HI.out _ (by repeat (first | exact HL.out | exact HLW.out | exact Lay.keep HL (by assumption) | exact Lay.keep HLW (by assumption) | refine Lay.alloc ?_ _ | refine Lay.drew ?_ | exact Lay.below HL.out (below_drewN (Hid.out (by assumption)) _) | (refine Lay.below HL.out (Below.setCell ?_ ?_ _) <;> first | exact Nat.le_refl _ | exact Hid.out (by assumption) | omega)))).mono ?_; rintro e w1 ⟨rfl, hb⟩; clear hlt2; rw [show (i : Int) + 1 = (p : Int) by have := HP.out; omega]; (obtain ⟨hk1, hl1⟩ := bcell hb); (have hz1 : w.heap.size < w1.heap.size := by have := hb.size; omega); (have Y1 := Lib.hid hb); clear hb)
        | (go_at_call_of 23 (Value.bool true); refine (Decode_yes z (by omega) ZB.out true j HJ.out _ (by repeat (first | exact HL.out | exact HLW.out | exact Lay.keep HL (by assumption) | exact Lay.keep HLW (by assumption) | refine Lay.alloc ?_ _ | refine Lay.drew ?_ | exact Lay.below HL.out (below_drewN (Hid.out (by assumption)) _) | (refine Lay.below HL.out (Below.setCell ?_ ?_ _) <;> first | exact Nat.le_refl _ | exact Hid.out (by assumption) | omega)))).mono ?_; rintro e w2 ⟨rfl, hb⟩; rw [show (j : Int) + 1 = (q : Int) by have := HQ.out; omega]; (obtain ⟨hk2, hl2⟩ := bcell hb); (have hz2 : w1.heap.size < w2.heap.size := by have := hb.size; simp at this; omega); (have hy2 : w.heap.size < w2.heap.size := by omega); (have Y2 := Lib.hid ((Y1.out.alloc Y1.out.size _).trans (hb.mono (by have := Y1.out.size; simp; omega)))); clear hb))
      refine ⟨⟨z + 1, by have := HM.out; have := ZB.out; omega, by go_num, ?_, ?_⟩, ?_⟩
      · have a1 := (XA.out.below Y2.out (Nat.le_refl _)).set p (ni + 1)
        have a2 := a1.set q (mj + 1)
        rw [HN.out] at a2
        exact a2.below ((Below.refl _ _).alloc (Nat.le_refl _) _) (Nat.le_refl _)
      · have b0 := XB.out.trans (Y2.out.mono XB.out.size)
        exact ((b0.setCell (p := ⟨w.heap.size, p, none⟩) (Nat.le_refl _) _).setCell (p := ⟨w.heap.size, q, none⟩) (Nat.le_refl _) _).alloc (by have := b0.size; simpa using this) _
      · simp [intOf]; have := HM.out; have := ZB.out; omega
    · have E : Hid (z = 32768) := (show z = 32768 by omega)
      clear hM
      have hz2 : ¬ (z : Int) < 32768 := by have := E.out; omega
      clear hz hlt
      go_wp2
      have CN : Hid (∀ i, i < 39 → cntF z (i + 1) = hi (kd i) - lo (kd i) + 1 - (if i = 0 then 3 else 0) - (if i = 12 then 1 else 0)) := fun i h => by rw [E.out]; exact cnt_all i h
      clear hz2 E HM
      go_loopw [9] (fun x wx => ∃ c : Int, 1 ≤ c ∧ c ≤ 40 ∧ x = .int .i64 c ∧ Below wr.heap.size wr wx) (fun x _ => 40 - (intOf x).toNat)
      case atStart => exact ⟨1, by omega, by omega, rfl, Below.refl _ _⟩
      case round =>
        rename_i W0 _ _ _
        obtain ⟨c, c1, c40, rfl, hb⟩ := hrel
        by_cases hc : c ≤ 39
        · obtain ⟨i, hi9⟩ := Int.eq_ofNat_of_zero_le (show 0 ≤ c - 1 by omega)
          try simp only [Int.ofNat_eq_natCast] at hi9
          have i39 : i < 39 := by omega
          have HC := Lib.hid hi9
          have A0 := XA.out.below hb (Nat.le_refl _)
          have hs0 : w.heap.size < wr.heap.size := A0.lt.2
          have X0 := Lib.hid hb
          have bh := bs_hi i i39
          have cv := CN.out i i39
          have cell := A0.cell (show i + 1 < 40 by omega)
          rw [cv] at cell
          clear cv A0 hb
          by_cases d1 : c = 1
          · have di : i = 0 := by omega
            subst d1
            subst di
            rw [if_pos rfl, if_neg (by decide), Int.sub_zero] at cell
            clear hi9 c1 c40 hc
            go_wp2_with (first
              | (go_at_call 16; refine (Of_yes 1 0 (by decide) rfl _ (by repeat (first | exact HL.out | exact HLW.out | exact Lay.keep HL (by assumption) | exact Lay.keep HLW (by assumption) | refine Lay.alloc ?_ _ | refine Lay.drew ?_ | exact Lay.below HL.out (below_drewN (Hid.out (by assumption)) _) | (refine Lay.below HL.out (Below.setCell ?_ ?_ _) <;> first | exact Nat.le_refl _ | exact Hid.out (by assumption) | omega)))).mono ?_; rintro e w1 ⟨rfl, hb⟩; (obtain ⟨hk1, hl1⟩ := bcell hb); (have hz1 : w.heap.size < w1.heap.size := by have := hb.size; omega); (have X1 := Lib.hid (X0.out.trans (hb.mono X0.out.size))); clear hb)
              | (go_at_call 18; refine (Range_any _ _ _ _ _ _ _ (by first | exact kd_255 _ (by assumption) | omega | decide) (by repeat (first | exact HL.out | exact HLW.out | exact Lay.keep HL (by assumption) | exact Lay.keep HLW (by assumption) | refine Lay.alloc ?_ _ | refine Lay.drew ?_ | exact Lay.below HL.out (below_drewN (Hid.out (by assumption)) _) | (refine Lay.below HL.out (Below.setCell ?_ ?_ _) <;> first | exact Nat.le_refl _ | exact Hid.out (by assumption) | omega)))).mono ?_; rintro e w2 ⟨rfl, hb⟩; (obtain ⟨hk2, hl2⟩ := bcell hb); (have hz2 : w1.heap.size < w2.heap.size := by have := hb.size; simp at this; omega); (have hy2 : w.heap.size < w2.heap.size := by omega); (have X2 := Lib.hid ((X1.out.alloc X1.out.size _).trans (hb.mono (by have := X1.out.size; simp; omega)))); clear hb))
            exact ⟨⟨2, by omega, by omega, rfl, X2.out⟩, by simp [intOf] <;> omega⟩
          by_cases d2 : c = 13
          · have di : i = 12 := by omega
            subst d2
            subst di
            rw [if_neg (by decide), if_pos rfl, Int.sub_zero] at cell
            clear hi9 c1 c40 hc d1
            go_wp2_with (first
              | (go_at_call 16; refine (Of_yes 13 12 (by decide) rfl _ (by repeat (first | exact HL.out | exact HLW.out | exact Lay.keep HL (by assumption) | exact Lay.keep HLW (by assumption) | refine Lay.alloc ?_ _ | refine Lay.drew ?_ | exact Lay.below HL.out (below_drewN (Hid.out (by assumption)) _) | (refine Lay.below HL.out (Below.setCell ?_ ?_ _) <;> first | exact Nat.le_refl _ | exact Hid.out (by assumption) | omega)))).mono ?_; rintro e w1 ⟨rfl, hb⟩; (obtain ⟨hk1, hl1⟩ := bcell hb); (have hz1 : w.heap.size < w1.heap.size := by have := hb.size; omega); (have X1 := Lib.hid (X0.out.trans (hb.mono X0.out.size))); clear hb)
              | (go_at_call 18; refine (Range_any _ _ _ _ _ _ _ (by first | exact kd_255 _ (by assumption) | omega | decide) (by repeat (first | exact HL.out | exact HLW.out | exact Lay.keep HL (by assumption) | exact Lay.keep HLW (by assumption) | refine Lay.alloc ?_ _ | refine Lay.drew ?_ | exact Lay.below HL.out (below_drewN (Hid.out (by assumption)) _) | (refine Lay.below HL.out (Below.setCell ?_ ?_ _) <;> first | exact Nat.le_refl _ | exact Hid.out (by assumption) | omega)))).mono ?_; rintro e w2 ⟨rfl, hb⟩; (obtain ⟨hk2, hl2⟩ := bcell hb); (have hz2 : w1.heap.size < w2.heap.size := by have := hb.size; simp at this; omega); (have hy2 : w.heap.size < w2.heap.size := by omega); (have X2 := Lib.hid ((X1.out.alloc X1.out.size _).trans (hb.mono (by have := X1.out.size; simp; omega)))); clear hb))
            exact ⟨⟨14, by omega, by omega, rfl, X2.out⟩, by simp [intOf] <;> omega⟩
          · have n0 : i ≠ 0 := by omega
            have n12 : i ≠ 12 := by omega
            rw [if_neg n0, if_neg n12, Int.sub_zero, Int.sub_zero, show i + 1 = c.toNat by omega] at cell
            have t1 : (c == 1) = false := by rw [beq_eq_false_iff_ne]; exact d1
            have t2 : (c == 13) = false := by rw [beq_eq_false_iff_ne]; exact d2
            clear d1 d2 n0 n12 hi9
            go_wp2_with (first
              | (go_at_call 16; refine (Of_yes c i i39 HC.out _ (by repeat (first | exact HL.out | exact HLW.out | exact Lay.keep HL (by assumption) | exact Lay.keep HLW (by assumption) | refine Lay.alloc ?_ _ | refine Lay.drew ?_ | exact Lay.below HL.out (below_drewN (Hid.out (by assumption)) _) | (refine Lay.below HL.out (Below.setCell ?_ ?_ _) <;> first | exact Nat.le_refl _ | exact Hid.out (by assumption) | omega)))).mono ?_; rintro e w1 ⟨rfl, hb⟩; (obtain ⟨hk1, hl1⟩ := bcell hb); (have hz1 : w.heap.size < w1.heap.size := by have := hb.size; omega); (have X1 := Lib.hid (X0.out.trans (hb.mono X0.out.size))); clear hb)
              | (go_at_call 18; refine (Range_any _ _ _ _ _ _ _ (by first | exact kd_255 _ (by assumption) | omega | decide) (by repeat (first | exact HL.out | exact HLW.out | exact Lay.keep HL (by assumption) | exact Lay.keep HLW (by assumption) | refine Lay.alloc ?_ _ | refine Lay.drew ?_ | exact Lay.below HL.out (below_drewN (Hid.out (by assumption)) _) | (refine Lay.below HL.out (Below.setCell ?_ ?_ _) <;> first | exact Nat.le_refl _ | exact Hid.out (by assumption) | omega)))).mono ?_; rintro e w2 ⟨rfl, hb⟩; (obtain ⟨hk2, hl2⟩ := bcell hb); (have hz2 : w1.heap.size < w2.heap.size := by have := hb.size; simp at this; omega); (have hy2 : w.heap.size < w2.heap.size := by omega); (have X2 := Lib.hid ((X1.out.alloc X1.out.size _).trans (hb.mono (by have := X1.out.size; simp; omega)))); clear hb))
            exact ⟨⟨c + 1, by omega, by omega, rfl, X2.out⟩, by simp [intOf] <;> omega⟩
        · have B1 := Lib.hid (XB.out.trans (hb.mono XB.out.size))
          have c2 : ¬ c ≤ 39 := hc
          clear hc hb
          go_wp2_with (go_at_call 20; refine (works4_any _ (by repeat (first | exact HL.out | exact HLW.out | exact Lay.keep HL (by assumption) | exact Lay.keep HLW (by assumption) | refine Lay.alloc ?_ _ | refine Lay.drew ?_ | exact Lay.below HL.out (below_drewN (Hid.out (by assumption)) _) | (refine Lay.below HL.out (Below.setCell ?_ ?_ _) <;> first | exact Nat.le_refl _ | exact Hid.out (by assumption) | omega)))).mono ?_; rintro e w9 ⟨rfl, hb⟩; (have B2 := Lib.hid (B1.out.trans (hb.mono B1.out.size))); clear hb)
          go_ret
          exact ⟨rfl, B2.out⟩
end Go.Proofs.YtjkdojdkmgaofaaDoor
