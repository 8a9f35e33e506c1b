/- The walk of MemoryKeeps. -/
import Derived.Test.YtamjknckgaffpaaL03f
import Derived.Test.YtamjknckgaffpaaOpen
import Derived.Test.YtamjknckgaffpaaCells2
import Derived.Deep.RegionWith
import Derived.Deep.RegionLaw
import Derived.Deep.DeepCutAuto
set_option linter.unusedSimpArgs false
set_option linter.unusedVariables false
namespace Go.Proofs.Ytamjknckgaffpaa
open Go.ChangeShapes Go.WideShapes Go.ChangeAt Go.RowKit
theorem info_cell : (Try.prog.info? 48).map (fun i => (i.zero, i.size, i.bytes)) = some (some (.agg #[.int .i64 0, .int .u16 0]), 2, 16) := by kernel_rfl
def pAt (n : Nat) (g : Nat → Int) (i : Nat) : Int := g i % 18446744073709551616 % n
theorem pAt_bd (n : Nat) (g : Nat → Int) (i : Nat) (hn : 0 < n) : 0 ≤ pAt n g i ∧ pAt n g i < n := ⟨Int.emod_nonneg _ (by omega), Int.emod_lt_of_pos _ (by omega)⟩
def flipAt (f : Nat → Int) (k : Nat) (y : Int) (i : Nat) : Int := if i = k then y else pPut (f i)
/-- What is known of place i after k cells: the word that it has, or that its parity is wrong. -/
def KeepRel (F : Nat → Int) (i : Nat) (W : Int) (b : Bool) : Prop := (b = true → odds 16 (F i) = true ∧ F i % 32768 = W) ∧ (b = false → odds 16 (F i) = false)
theorem applyF_bd (F P h : Nat → Int) (hF : ∀ i, 0 ≤ F i ∧ F i < 65536) (hh : ∀ i, 0 ≤ h i ∧ h i < 65536) (k : Nat) : ∀ i, 0 ≤ applyF F P h k i ∧ applyF F P h k i < 65536 := by
  induction k with
  | zero => exact hF
  | succ k ih =>
    intro i
    rw [applyF_succ]
    dsimp only
    split
    · exact pPut_bd _ (hh k).1
    · exact ih i
theorem keep_start_ne (f : Nat → Int) (k i : Nat) (y : Int) (hf : 0 ≤ f i) (h : i ≠ k) : KeepRel (flipAt f k y) i (f i % 32768) true := by
  have e : flipAt f k y i = pPut (f i) := by unfold flipAt; rw [if_neg h]
  exact ⟨fun _ => by rw [e]; exact ⟨pPut_odds _ hf, pPut_mod _ hf⟩, fun h => by cases h⟩
theorem keep_start_eq (f : Nat → Int) (k : Nat) (y W : Int) (h : odds 16 y = false) : KeepRel (flipAt f k y) k W false := by
  have e : flipAt f k y k = y := by unfold flipAt; rw [if_pos rfl]
  exact ⟨(fun h => by cases h), (fun _ => by rw [e]; exact h)⟩
theorem keep_hit (F P h : Nat → Int) (j q : Nat) (hh : 0 ≤ h j) (hP : P j = q) : KeepRel (applyF F P h (j + 1)) q (h j % 32768) true := by
  have e : applyF F P h (j + 1) q = pPut (h j) := by rw [applyF_succ]; dsimp only; rw [if_pos (by omega)]
  exact ⟨fun _ => by rw [e]; exact ⟨pPut_odds _ hh, pPut_mod _ hh⟩, fun h => by cases h⟩
theorem keep_miss (F P h : Nat → Int) (j q : Nat) (W : Int) (b : Bool) (h0 : 0 ≤ P j) (hP : P j ≠ q) (hk : KeepRel (applyF F P h j) q W b) : KeepRel (applyF F P h (j + 1)) q W b := by
  have e : applyF F P h (j + 1) q = applyF F P h j q := by rw [applyF_succ]; dsimp only; rw [if_neg (by omega)]
  unfold KeepRel at *
  rw [e]; exact hk
theorem keep_read_yes {F : Nat → Int} {n i : Nat} {W : Int} (hi : i < n) (hk : KeepRel F i W true) : mReadV n F (i : Int) = W ∧ mReadE n F (i : Int) = 0 := by
  obtain ⟨h1, h2⟩ := hk.1 rfl
  unfold mReadV mReadE
  have hc : 0 ≤ (i : Int) ∧ (i : Int) < (n : Int) := by omega
  rw [if_pos hc, if_pos hc, Int.toNat_natCast, if_pos h1, if_pos h1]; exact ⟨h2, rfl⟩
theorem keep_read_no {F : Nat → Int} {n i : Nat} {W : Int} (hi : i < n) (hk : KeepRel F i W false) : mReadV n F (i : Int) = 0 ∧ mReadE n F (i : Int) = 11 := by
  have h1 := hk.2 rfl
  unfold mReadV mReadE
  have hc : 0 ≤ (i : Int) ∧ (i : Int) < (n : Int) := by omega
  have hn : ¬ odds 16 (F i) = true := by rw [h1]; simp
  rw [if_pos hc, if_pos hc, Int.toNat_natCast, if_neg hn, if_neg hn]; exact ⟨rfl, rfl⟩
set_option maxRecDepth 100000 in
set_option maxHeartbeats 8000000 in
theorem memoryKeeps_core (A D : Option Addr) (la ca ld cd n m : Nat) (bit : Int) (b0 : 0 ≤ bit) (b1 : bit < 65536) (f g h : Nat → Int) (w : World) (hr : Row .u16 w A n f) (hc : Cells w D m g h) (hf : ∀ i, 0 ≤ f i ∧ f i < 65536) (hg : ∀ i, -9223372036854775808 ≤ g i ∧ g i ≤ 9223372036854775807) (hh : ∀ i, 0 ≤ h i ∧ h i < 65536)
    (hla : la ≤ ca) (hca : ca ≤ 9223372036854775807) (hld : ld ≤ cd) (hcd : cd ≤ 9223372036854775807)
    (hn : (la = n ∧ (la : Int) ≤ 60) ∨ (60 = n ∧ ¬ (la : Int) ≤ 60)) (hm : (ld = m ∧ (ld : Int) ≤ 60) ∨ (60 = m ∧ ¬ (ld : Int) ≤ 60)) :
    Calls Try.prog 8 #[.slice A la ca, .slice D ld cd, .int .u16 bit] w fun e w' => e = .returned (.bool true) ∧ Below w.heap.size w w' := by
  have HR := Lib.hid hr
  have HC := Lib.hid hc
  have HF := Lib.hid hf
  have HG := Lib.hid hg
  have HH := Lib.hid hh
  clear hr hc hf hg hh
  have hn1 : n ≤ 60 := by omega
  have hm1 : m ≤ 60 := by omega
  go_enter Try.func8, Try.ntmps8
  go_upto_region 1 with (fail)
  go_cut [0, 1] (fun s0 s1 wx => s0 = .slice A n ca ∧ s1 = .slice D m cd ∧ Below w.heap.size w wx)
  case first =>
    rcases hn with ⟨en, hcn⟩ | ⟨en, hcn⟩ <;> rcases hm with ⟨em, hcm⟩ | ⟨em, hcm⟩
    all_goals
      have EN := Lib.hid en
      have EM := Lib.hid em
      clear en em
      go_region
      all_goals
        go_wp2
        go_meet
        exact ⟨by rw [EN.out], by rw [EM.out], Below.drew (Below.refl _ _)⟩
  case rest =>
    obtain ⟨rfl, rfl, hw⟩ := hcut
    clear hla hld hcd hn hm hca
    have BW := Lib.hid hw
    clear hw
    by_cases hz : n = 0
    · subst hz
      go_wp2_with (first | (go_at_call 16; refine (works3_any _).mono ?_; rintro e wf ⟨rfl, hbf⟩))
      go_ret
      exact ⟨rfl, below_from BW.out hbf⟩
    · have hn0 : 0 < n := by omega
      obtain ⟨a, ea, _⟩ := HR.out 0 hn0
      subst ea
      go_wp2_with fail
      refine (All_any _ n ca f _ (HR.out.below BW.out (Nat.le_refl _)) HF.out (by omega)).mono ?_
      rintro e w1 ⟨v1, rfl, o1, d1⟩
      obtain ⟨gm, cm, rfl, hgm, oa⟩ := Arr.mk_own (f := fun i => pPut (f i)) o1 hn0
      have XA := Lib.hid oa
      have B1 := Lib.hid (below_from BW.out d1)
      clear o1 d1 oa
      obtain ⟨p, hp⟩ : ∃ p : Nat, bit / 16 = p := ⟨(bit / 16).toNat, by omega⟩
      have hp1 : (p : Int) ≤ 4095 := by omega
      have hpw : IntKind.u16.wrap (bit.tdiv 16) = p := by rw [Int.tdiv_eq_ediv_of_nonneg b0, hp]; exact IntWalk.u16_in _ (by omega)
      clear hp
      obtain ⟨at_, hat⟩ : ∃ at_ : Nat, (p : Int) % (n : Int) = at_ := ⟨p % n, by simp⟩
      have hatm : (at_ : Int) < n := by rw [← hat]; exact Int.emod_lt_of_pos _ (by omega)
      have hatn : at_ < n := by omega
      obtain ⟨x0, x1⟩ := pPut_bd (f at_) (HF.out at_).1
      obtain ⟨y, hy, hE, _, _, hy0, hy1, ho⟩ := flip_facts (pPut (f at_)) (bit % 16) x0 x1 (by omega) (by omega)
      rw [pPut_odds _ (HF.out at_).1] at ho
      have cm_ := XA.out.cell hatn
      have fm_ := XA.out.free at_
      have HO := Lib.hid ho
      clear ho
      go_wp2_with (first | (go_at_call 33; refine (Flip_any _ (by omega) (by omega) _ (by omega) (by omega) _).mono ?_; rintro e w1 ⟨rfl, rfl⟩))
      have XA2 : Hid (Arr .u16 58 (w1.setCell ⟨gm, at_, none⟩ (.int .u16 y)) wc.heap.size gm n cm (flipAt f at_ y)) := XA.out.set at_ y
      have B2 : Hid (Below w.heap.size w (w1.setCell ⟨gm, at_, none⟩ (.int .u16 y))) := B1.out.setCell (p := ⟨gm, at_, none⟩) (Nat.le_trans BW.out.size hgm) _
      clear XA B1 cm_ fm_ hy hE
      generalize w1.setCell ⟨gm, at_, none⟩ (.int .u16 y) = w2 at XA2 B2 ⊢
      go_loopw [11, 12] (fun v i wr => ∃ k : Nat, k ≤ m ∧ i = .int .i64 k ∧ Own2 48 wr w2.heap.size v k (fun i => .int .i64 (pAt n g i)) (fun i => .int .u16 (h i)) ∧ Below w2.heap.size w2 wr) (fun _ i _ => m - (intOf i).toNat)
      case atStart => exact ⟨0, Nat.zero_le _, rfl, Own2.nil _ _ _ _ _, Below.refl _ _⟩
      case round =>
        obtain ⟨k, hk, rfl, ho, hb⟩ := hrel
        have XO := Lib.hid ho
        have XB := Lib.hid hb
        clear ho hb
        by_cases hkm : k < m
        · obtain ⟨d, ed, cd0, cd1⟩ := ((HC.out.below B2.out (Nat.le_refl _)).below XB.out (Nat.le_refl _)) k hkm
          subst ed
          obtain ⟨g0, g1⟩ := HG.out k
          obtain ⟨P0, P1⟩ := pAt_bd n g k hn0
          obtain ⟨u, hu, u0, u1, huP⟩ : ∃ u, IntKind.u64.wrap (g k) = u ∧ 0 ≤ u ∧ u ≤ 18446744073709551615 ∧ u % (n : Int) = pAt n g k := ⟨g k % 18446744073709551616, IntKind.wrap_u64 _, by omega, by omega, rfl⟩
          have hun : IntKind.u64.wrap (n : Int) = n := by rw [IntKind.wrap_u64]; omega
          have huP2 : u.tmod (n : Int) = pAt n g k := by rw [Int.tmod_eq_emod_of_nonneg u0]; exact huP
          have hsz := XB.out.size
          have hwP : IntKind.i64.wrap (pAt n g k) = pAt n g k := IntWalk.i64_in _ (by omega)
          go_wp2
          go_region_law (refine step_app2 rfl _ _ 41 rfl 48 _ 16 Try.underlying41 info_cell rfl w2 w2.heap.size _ k (fun i => .int .i64 (pAt n g i)) (fun i => .int .u16 (h i)) (Own2.alloc (w := wr.drew) XO.out _) rfl _ rfl ?_ ?_ rfl rfl (by omega) ?_ ?_ ?_; (first | exact World.cell?_alloc_at _ _ _ _ rfl | (simp [go_sem]; done)); (first | exact World.cell?_alloc_at _ _ _ _ rfl | (simp [go_sem]; done)); (repeat (first | exact XB.out | apply Below.drew | (refine Below.alloc ?_ (by first | exact hsz | (simp; omega)) _))); (first | exact hsz | (simp; omega)); intro v3 w3 o3 b3 g3)
          all_goals
            have O3 := Lib.hid o3
            have B3 := Lib.hid b3
            clear o3 b3 g3
            go_wp2
            go_roundw
            case rel => exact ⟨k + 1, by omega, by go_num, O3.out, B3.out⟩
            case measure => simp [intOf]; omega
        · have e : k = m := by omega
          subst e
          obtain ⟨C, cc, rfl, _, _, RC⟩ := XO.out.cells
          have XA3 := Lib.hid (XA2.out.below XB.out (Nat.le_refl _))
          have B3 := Lib.hid (below_from B2.out XB.out)
          clear XA2 B2 XO XB
          go_wp2_with fail
          refine (Apply_any _ n cm C k cc (flipAt f at_ y) (pAt n g) h _ XA3.out.row (fun h => by cases h) RC.out (fun i => by have := pAt_bd n g i hn0; omega) HH.out (by omega) (by omega)).mono ?_
          rw [(mApply_ok (flipAt f at_ y) h (fun i _ => pAt_bd n g i hn0)).1, (mApply_ok (flipAt f at_ y) h (fun i _ => pAt_bd n g i hn0)).2]
          rintro e w4 ⟨v4, rfl, o4, d4⟩
          obtain ⟨X4, c4, rfl, _, _, R4⟩ := o4.rowOf n (applyF (flipAt f at_ y) (pAt n g) h k) (lst_len _ _) (fun i hi => lst_get _ _ i hi)
          have RC4 := Lib.hid (RC.out.below d4 (Nat.le_refl _))
          have RL4 := Lib.hid ((HR.out.below B3.out (Nat.le_refl _)).below d4 (Nat.le_refl _))
          have XA4 := Lib.hid (XA3.out.below d4 (Nat.le_refl _))
          have B4 := Lib.hid (below_from B3.out d4)
          clear o4 d4 RC XA3 B3
          have GB : Hid (∀ i, 0 ≤ flipAt f at_ y i ∧ flipAt f at_ y i < 65536) := fun i => by
            unfold flipAt
            split
            · exact ⟨hy0, hy1⟩
            · exact pPut_bd _ (HF.out i).1
          have FB : Hid (∀ i, 0 ≤ applyF (flipAt f at_ y) (pAt n g) h k i ∧ applyF (flipAt f at_ y) (pAt n g) h k i < 65536) := applyF_bd _ _ _ GB.out HH.out k
          go_wp2
          go_loop [15] (fun i => ∃ q : Nat, q ≤ n ∧ i = .int .i64 q) (fun i => n - (intOf i).toNat)
          case atStart => exact ⟨0, Nat.zero_le _, rfl⟩
          case round =>
            obtain ⟨q, hq, rfl⟩ := hrel
            by_cases hqn : q < n
            · have cl := RL4.out.at_ hqn
              obtain ⟨f0, f1⟩ := HF.out q
              obtain ⟨b0', bq, hbq, K0⟩ : ∃ b0 : Bool, ∃ bq : Bool, ((q : Int) != (at_ : Int)) = b0 ∧ Hid (b0 = bq ∧ KeepRel (flipAt f at_ y) q (f q % 32768) bq) := by
                by_cases hqa : q = at_
                · refine ⟨false, false, ?_, rfl, ?_⟩
                  · rw [hqa]; simp
                  · rw [hqa]; exact keep_start_eq f at_ y _ HO.out
                · exact ⟨true, true, by rw [bne_iff_ne]; omega, rfl, keep_start_ne f at_ q y f0 hqa⟩
              obtain ⟨eb, K1⟩ := K0.out
              subst eb
              clear K0
              have K2 := Lib.hid K1
              clear K1
              go_wp2
              go_loop [16, 17, 18] (fun s16 s17 s18 => ∃ j : Nat, j ≤ k ∧ s18 = .int .i64 j ∧ ∃ (W : Int) (b : Bool), s16 = .int .u16 W ∧ s17 = .bool b ∧ 0 ≤ W ∧ W < 65536 ∧ Hid (KeepRel (applyF (flipAt f at_ y) (pAt n g) h j) q W b)) (fun _ _ s => k - (intOf s).toNat)
              case atStart => exact ⟨0, Nat.zero_le _, rfl, _, _, rfl, rfl, by omega, by omega, K2.out⟩
              case round =>
                obtain ⟨j, hj, rfl, W, b, rfl, rfl, hW0, hW1, KR⟩ := hrel
                by_cases hjk : j < k
                · obtain ⟨C', eC, cc0, cc1⟩ := RC4.out j hjk
                  subst eC
                  obtain ⟨h0, h1⟩ := HH.out j
                  obtain ⟨P0, P1⟩ := pAt_bd n g j hn0
                  by_cases hPj : pAt n g j = q
                  · have t1 : (pAt n g j == (q : Int)) = true := by rw [hPj]; simp
                    have KN := Lib.hid (keep_hit (flipAt f at_ y) (pAt n g) h j q h0 hPj)
                    clear hPj
                    go_wp2
                    go_round
                    case rel => exact ⟨j + 1, by omega, by go_num, _, true, rfl, rfl, by omega, by omega, KN.out⟩
                    case measure => simp [intOf]; omega
                  · have t1 : (pAt n g j == (q : Int)) = false := by rw [beq_eq_false_iff_ne]; exact hPj
                    have KN := Lib.hid (keep_miss (flipAt f at_ y) (pAt n g) h j q W b P0 hPj KR.out)
                    clear hPj
                    go_wp2
                    go_round
                    case rel => exact ⟨j + 1, by omega, by go_num, W, b, rfl, rfl, hW0, hW1, KN.out⟩
                    case measure => simp [intOf]; omega
                · have e : j = k := by omega
                  subst e
                  go_wp2_with fail
                  refine (Read_any _ n c4 (applyF (flipAt f at_ y) (pAt n g) h j) _ R4.out FB.out (by omega) q (by omega) (by omega)).mono ?_
                  cases b
                  · rw [(keep_read_no hqn KR.out).1, (keep_read_no hqn KR.out).2]
                    rintro e w5 ⟨rfl, rfl⟩
                    go_wp2
                    go_round
                    case rel => exact ⟨q + 1, by omega, by go_num⟩
                    case measure => simp [intOf]; omega
                  · rw [(keep_read_yes hqn KR.out).1, (keep_read_yes hqn KR.out).2]
                    rintro e w5 ⟨rfl, rfl⟩
                    go_wp2
                    go_round
                    case rel => exact ⟨q + 1, by omega, by go_num⟩
                    case measure => simp [intOf]; omega
            · have e : q = n := by omega
              subst e
              have hV : mReadE q (flipAt f at_ y) (at_ : Int) = 11 := by
                unfold mReadE
                rw [if_pos (by omega), Int.toNat_natCast, if_neg]
                unfold flipAt; rw [if_pos rfl, HO.out]; simp
              have HV := Lib.hid hV
              clear hV
              go_wp2_with fail
              refine (Read_any _ q cm (flipAt f at_ y) _ XA4.out.row GB.out (by omega) at_ (by omega) (by omega)).mono ?_
              rw [HV.out]
              rintro e w5 ⟨rfl, rfl⟩
              go_wp2_with fail
              refine (works3_any _).mono ?_
              rintro e w6 ⟨rfl, d6⟩
              have B6 := Lib.hid (below_from B4.out d6)
              clear d6
              go_wp2
              go_ret
              exact ⟨rfl, B6.out⟩
theorem memoryKeeps_walk (A : Option Addr) (la ca : Nat) (f : Nat → Int) (D : Option Addr) (ld cd : Nat) (g h : Nat → Int) (bit : Int) (w : World) (ha : IsWords w A la ca f) (hd : IsCells w D ld cd g h) (wb : (Lit.int .u16 bit).wf = true) :
    Calls Try.prog 8 #[.slice A la ca, .slice D ld cd, .int .u16 bit] w fun e w' => e = .returned (.bool true) ∧ Below w.heap.size w w' := by
  obtain ⟨hr, h1, h2, hna, hf⟩ := ha
  obtain ⟨hc, h3, h4, hg, hh⟩ := hd
  obtain ⟨b0, b1⟩ := bounds_u16 wb
  have b2 : bit < 65536 := by omega
  by_cases d : (la : Int) ≤ 60 <;> by_cases e : (ld : Int) ≤ 60
  · exact memoryKeeps_core A D la ca ld cd la ld bit b0 b2 f g h w hr hc hf hg hh h1 h2 h3 h4 (.inl ⟨rfl, d⟩) (.inl ⟨rfl, e⟩)
  · exact memoryKeeps_core A D la ca ld cd la 60 bit b0 b2 f g h w hr (hc.take (by omega)) hf hg hh h1 h2 h3 h4 (.inl ⟨rfl, d⟩) (.inr ⟨rfl, e⟩)
  · exact memoryKeeps_core A D la ca ld cd 60 ld bit b0 b2 f g h w (hr.take (by omega)) hc hf hg hh h1 h2 h3 h4 (.inr ⟨rfl, d⟩) (.inl ⟨rfl, e⟩)
  · exact memoryKeeps_core A D la ca ld cd 60 60 bit b0 b2 f g h w (hr.take (by omega)) (hc.take (by omega)) hf hg hh h1 h2 h3 h4 (.inr ⟨rfl, d⟩) (.inr ⟨rfl, e⟩)
end Go.Proofs.Ytamjknckgaffpaa
