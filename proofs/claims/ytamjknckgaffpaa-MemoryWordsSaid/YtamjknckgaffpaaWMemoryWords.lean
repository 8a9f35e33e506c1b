/- The walk of MemoryWords. -/
import Derived.Test.YtamjknckgaffpaaL03f
import Derived.Test.YtamjknckgaffpaaOpen
import Derived.Deep.RegionWith
import Derived.Deep.DeepCutAuto
set_option linter.unusedSimpArgs false
set_option linter.unusedVariables false
namespace Go.Proofs.Ytamjknckgaffpaa
open Go.ChangeShapes Go.WideShapes Go.ChangeAt Go.RowKit
set_option maxRecDepth 100000 in
set_option maxHeartbeats 8000000 in
theorem memoryWords_core (A D : Option Addr) (la ca ld cd n m : Nat) (x : Int) (x0 : -9223372036854775808 ≤ x) (x1 : x ≤ 9223372036854775807) (f g h : Nat → Int) (w : World) (hr : Row .u16 w A n f) (hc : Cells w D m g h) (hf : ∀ i, 0 ≤ f i ∧ f i < 65536) (hg : ∀ i, -9223372036854775808 ≤ g i ∧ g i ≤ 9223372036854775807) (hh : ∀ i, 0 ≤ h i ∧ h i < 65536)
    (hla : la ≤ ca) (hca : ca ≤ 9223372036854775807) (hld : ld ≤ cd) (hcd : cd ≤ 9223372036854775807) (hna : A = none → ca = 0)
    (hn : (la = n ∧ (la : Int) ≤ 3000) ∨ (3000 = n ∧ ¬ (la : Int) ≤ 3000)) (hm : (ld = m ∧ (ld : Int) ≤ 200) ∨ (200 = m ∧ ¬ (ld : Int) ≤ 200)) :
    Calls Try.prog 5 #[.slice A la ca, .int .i64 x, .slice D ld cd] w fun e w' => e = .returned (.bool true) ∧ Below w.heap.size w w' := by
  have HR := Lib.hid hr
  have HC := Lib.hid hc
  have HF := Lib.hid hf
  have HG := Lib.hid hg
  have HH := Lib.hid hh
  have NA := Lib.hid hna
  clear hr hc hf hg hh hna
  have hn1 : n ≤ 3000 := by omega
  have hm1 : m ≤ 200 := by omega
  go_enter Try.func5, Try.ntmps5
  go_upto_region 1 with (fail)
  go_cut [0, 2] (fun s0 s2 wx => s0 = .slice A n ca ∧ s2 = .slice D m cd ∧ Below w.heap.size w wx)
  case first =>
    rcases hn with ⟨en, hcn⟩ | ⟨en, hcn⟩ <;> rcases hm with ⟨em, hcm⟩ | ⟨em, hcm⟩
    all_goals
      have EN := Lib.hid en
      have EM := Lib.hid em
      clear en em
      go_region
      all_goals
        go_wp2
        go_meet
        exact ⟨by rw [EN.out], by rw [EM.out], Below.drew (Below.refl _ _)⟩
  case rest =>
    obtain ⟨rfl, rfl, hw⟩ := hcut
    clear hla hld hcd hn hm
    have BW := Lib.hid hw
    clear hw
    go_wp2_with (at_builtin; refine app_row rfl _ _ 35 rfl .u16 58 2 Try.underlying35 info_stored w _ w.heap.size (.slice none 0 0) [] A _ _ f (Own.nil _ _ _ _) (HR.out.below BW.out (Nat.le_refl _)) NA.out rfl rfl (by refine ⟨?_, ?_⟩ <;> simp only [List.length_nil] <;> omega) BW.out BW.out.size ?_; intro v1 w1 o1 b1 g1; (simp only [List.nil_append] at o1); (obtain ⟨X, cx, rfl, hx1, hx2, NX, RO⟩ := o1.rowN n f (lst_len n f) (fun i hi => lst_get n f i hi)); (have RL := Lib.hid (HR.out.below b1 (Nat.le_refl _)); have RC := Lib.hid (HC.out.below b1 (Nat.le_refl _)); have B1 := Lib.hid b1; have NX' := Lib.hid NX; clear o1 b1 g1 NX HR HC BW))
    refine (Read_any _ _ _ _ _ RL.out HF.out (by omega) x x0 x1).mono ?_
    rintro e w2 ⟨rfl, rfl⟩
    go_wp2_with fail
    refine (rRead_any _ _ _ _ _ RO.out HF.out (by omega) x x0 x1).mono ?_
    rintro e w2 ⟨rfl, rfl⟩
    go_wp2
    go_loopw [12] (fun i wr => ∃ k : Nat, k ≤ m ∧ i = .int .i64 k ∧ Below w1.heap.size w1 wr) (fun i _ => m - (intOf i).toNat)
    case atStart => exact ⟨0, Nat.zero_le _, rfl, Below.refl _ _⟩
    case round =>
      obtain ⟨k, hk, rfl, hb⟩ := hrel
      have BK := Lib.hid hb
      clear hb
      by_cases hkm : k < m ∧ (k : Int) < 5
      · obtain ⟨hkm1, hkm2⟩ := hkm
        obtain ⟨d, ed, cd0, cd1⟩ := (RC.out.below BK.out (Nat.le_refl _)) k hkm1
        subst ed
        obtain ⟨g0, g1⟩ := HG.out k
        obtain ⟨h0, h1⟩ := HH.out k
        obtain ⟨q, hq⟩ : ∃ q, (mWriteL n f (g k) (h k)).length = q := ⟨_, rfl⟩
        have hqn : q ≤ n := by
          rw [← hq]; unfold mWriteL
          split
          · rw [lst_len]; exact Nat.le_refl _
          · simp
        have HQ := Lib.hid hq
        clear hq
        go_upto_region 11 with (fail)
        go_cut [13, 14] (fun s13 s14 wx => s14 = .int .i64 (mWriteE n (g k)) ∧ Own .u16 58 wx 0 s13 (mWriteL n f (g k) (h k)) ∧ Below w1.heap.size w1 wx)
        case first =>
          go_region_with (go_at_call 24; refine (Write_any A n ca f _ ?_ (by omega) _ (by omega) (by omega) _ (by omega) (by omega)).mono ?_; exact (RL.out.below BK.out (Nat.le_refl _)).drewN 1; rintro e w3 ⟨v3, rfl, o3, b3⟩)
          all_goals
            go_wp2
            go_meet
            exact ⟨rfl, o3.low (Nat.zero_le _), BK.out.trans ((from_drew b3).mono BK.out.size)⟩
        case rest =>
          obtain ⟨rfl, o3, b3⟩ := hcut
          have O3 := Lib.hid o3
          have B3 := Lib.hid b3
          clear o3 b3
          obtain ⟨d', ed', cd0', cd1'⟩ := (RC.out.below B3.out (Nat.le_refl _)) k hkm1
          cases ed'
          clear cd0 cd1
          go_upto_region 12 with (fail)
          go_cut [15, 16] (fun s15 s16 wx => s16 = .int .i64 (mWriteE n (g k)) ∧ Own .u16 58 wx 0 s15 (mWriteL n f (g k) (h k)) ∧ Below wc.heap.size wc wx)
          case first =>
            go_region_with (go_at_call 25; refine (rWrite_any X n cx f _ ?_ (by omega) _ (by omega) (by omega) _ (by omega) (by omega)).mono ?_; exact (RO.out.below B3.out (Nat.le_refl _)).drewN 1; rintro e w3 ⟨v3, rfl, o3, b3⟩)
            all_goals
              go_wp2
              go_meet
              exact ⟨rfl, o3.low (Nat.zero_le _), from_drew b3⟩
          case rest =>
            obtain ⟨rfl, o4, b4⟩ := hcut
            obtain ⟨X3, c3, rfl, _, _, R3⟩ := (O3.out.below b4 (Nat.le_refl _)).rowOf q _ HQ.out (fun _ _ => rfl)
            obtain ⟨X4, c4, rfl, _, _, R4⟩ := o4.rowOf q _ HQ.out (fun _ _ => rfl)
            have B4 := Lib.hid (B3.out.trans (b4.mono B3.out.size))
            clear o4 b4 O3 B3
            go_wp2_with fail
            refine (rSame_any _ _ _ _ _ _ _ _ R3.out R4.out (fun _ _ => rfl) (by omega)).mono ?_
            rintro e w6 ⟨rfl, m6, rfl⟩
            go_wp2
            go_roundw
            case rel => exact ⟨k + 1, by omega, by go_num, below_drewN B4.out _⟩
            case measure => simp [intOf]; omega
      · obtain ⟨q, hq⟩ : ∃ q, (mApplyL n f g h m).length = q := ⟨_, rfl⟩
        have hqn : q ≤ n := by
          rw [← hq]; unfold mApplyL
          split
          · rw [lst_len]; exact Nat.le_refl _
          · simp
        have HQ := Lib.hid hq
        clear hq
        have hcase : ¬ k < m ∨ (k < m ∧ ¬ (k : Int) < 5) := by omega
        clear hkm
        rcases hcase with h1 | ⟨h1, h2⟩
        all_goals
          go_wp2_with fail
          refine (Apply_any A n ca D m cd f g h _ (RL.out.below BK.out (Nat.le_refl _)) NA.out (RC.out.below BK.out (Nat.le_refl _)) HG.out HH.out (by omega) (by omega)).mono ?_
          rintro e w3 ⟨v3, rfl, o3, b3⟩
          have B3 := Lib.hid (BK.out.trans (b3.mono BK.out.size))
          go_wp2_with fail
          refine (rApply_any X n cx D m cd f g h _ (RO.out.below B3.out (Nat.le_refl _)) NX'.out (RC.out.below B3.out (Nat.le_refl _)) HG.out HH.out (by omega) (by omega)).mono ?_
          rintro e w4 ⟨v4, rfl, o4, b4⟩
          obtain ⟨X3, c3, rfl, _, _, R3⟩ := (o3.below b4 (Nat.le_refl _)).rowOf q _ HQ.out (fun _ _ => rfl)
          obtain ⟨X4, c4, rfl, _, _, R4⟩ := o4.rowOf q _ HQ.out (fun _ _ => rfl)
          have B4 := Lib.hid (B3.out.trans (b4.mono B3.out.size))
          clear o3 o4 b3 b4 B3
          go_wp2_with fail
          refine (rSame_any _ _ _ _ _ _ _ _ R3.out R4.out (fun _ _ => rfl) (by omega)).mono ?_
          rintro e w5 ⟨rfl, m5, rfl⟩
          go_wp2_with fail
          refine (Words3_any A n ca f _ ((RL.out.below B4.out (Nat.le_refl _)).drewN _) HF.out (by omega)).mono ?_
          rintro e w6 ⟨v6, rfl, o6, b6⟩
          replace b6 := from_drewN b6
          have B6 := Lib.hid (B4.out.trans (b6.mono B4.out.size))
          go_wp2_with fail
          refine (rWords3_any X n cx f _ (RO.out.below B6.out (Nat.le_refl _)) HF.out (by omega)).mono ?_
          rintro e w7 ⟨v7, rfl, o7, b7⟩
          obtain ⟨X6, c6, rfl, _, _, R6⟩ := (o6.below b7 (Nat.le_refl _)).rowOf n _ (lst_len _ _) (fun _ _ => rfl)
          obtain ⟨X7, c7, rfl, _, _, R7⟩ := o7.rowOf n _ (lst_len _ _) (fun _ _ => rfl)
          have B7 := Lib.hid (B6.out.trans (b7.mono B6.out.size))
          clear o6 o7 b6 b7 B6 R3 R4
          go_wp2_with fail
          refine (rWords_any _ _ _ _ _ _ _ _ R6.out R7.out (fun _ _ => rfl) (by omega)).mono ?_
          rintro e w8 ⟨rfl, m8, rfl⟩
          go_wp2_with fail
          refine (rSame_any _ _ _ _ _ _ _ _ ((RL.out.below B7.out (Nat.le_refl _)).drewN _) ((RO.out.below B7.out (Nat.le_refl _)).drewN _) (fun _ _ => rfl) (by omega)).mono ?_
          rintro e w9 ⟨rfl, m9, rfl⟩
          go_wp2_with fail
          refine (works3_any _).mono ?_
          rintro e w10 ⟨rfl, b10⟩
          replace b10 := from_drewN b10
          have B10 := Lib.hid (B7.out.trans (b10.mono B7.out.size))
          clear b10
          go_wp2
          go_ret
          exact ⟨rfl, B1.out.trans (B10.out.mono B1.out.size)⟩
theorem memoryWords_walk (A : Option Addr) (la ca : Nat) (f : Nat → Int) (x : Int) (D : Option Addr) (ld cd : Nat) (g h : Nat → Int) (w : World) (ha : IsWords w A la ca f) (wx : (Lit.int .i64 x).wf = true) (hd : IsCells w D ld cd g h) :
    Calls Try.prog 5 #[.slice A la ca, .int .i64 x, .slice D ld cd] w fun e w' => e = .returned (.bool true) ∧ Below w.heap.size w w' := by
  obtain ⟨hr, h1, h2, hna, hf⟩ := ha
  obtain ⟨hc, h3, h4, hg, hh⟩ := hd
  obtain ⟨x0, x1⟩ := bounds_i64 wx
  have x2 : x ≤ 9223372036854775807 := by omega
  by_cases d : (la : Int) ≤ 3000 <;> by_cases e : (ld : Int) ≤ 200
  · exact memoryWords_core A D la ca ld cd la ld x x0 x2 f g h w hr hc hf hg hh h1 h2 h3 h4 hna (.inl ⟨rfl, d⟩) (.inl ⟨rfl, e⟩)
  · exact memoryWords_core A D la ca ld cd la 200 x x0 x2 f g h w hr (hc.take (by omega)) hf hg hh h1 h2 h3 h4 hna (.inl ⟨rfl, d⟩) (.inr ⟨rfl, e⟩)
  · exact memoryWords_core A D la ca ld cd 3000 ld x x0 x2 f g h w (hr.take (by omega)) hc hf hg hh h1 h2 h3 h4 hna (.inr ⟨rfl, d⟩) (.inl ⟨rfl, e⟩)
  · exact memoryWords_core A D la ca ld cd 3000 200 x x0 x2 f g h w (hr.take (by omega)) (hc.take (by omega)) hf hg hh h1 h2 h3 h4 hna (.inr ⟨rfl, d⟩) (.inr ⟨rfl, e⟩)
end Go.Proofs.Ytamjknckgaffpaa
