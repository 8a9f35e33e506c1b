/- The walk of ParityBad. -/
import Derived.Test.YtaebepepppfooaaL02e
set_option linter.unusedSimpArgs false
set_option linter.unusedVariables false
namespace Go.Proofs.Ytaebepepppfooaa
open Go.ChangeShapes Go.WideShapes Go.ChangeAt Go.RowKit
set_option maxRecDepth 100000 in
set_option maxHeartbeats 4000000 in
theorem parityBad_core (a : Addr) (B : Option Addr) (la ca lb cb m n : Nat) (f g : Nat → Int) (w : World) (hra : Row .u16 w (some a) m f) (hrb : Row .u16 w B n g) (hf : ∀ i, 0 ≤ f i ∧ f i < 65536) (hg : ∀ i, 0 ≤ g i ∧ g i < 65536)
    (hla : la ≤ ca) (hlb : lb ≤ cb) (hca : ca ≤ 9223372036854775807) (hcb : cb ≤ 9223372036854775807) (hm0 : 0 < m)
    (hm : (la = m ∧ (la : Int) ≤ 300) ∨ (300 = m ∧ ¬ (la : Int) ≤ 300)) (hn : (lb = n ∧ (lb : Int) ≤ 300) ∨ (300 = n ∧ ¬ (lb : Int) ≤ 300)) :
    Calls Try.prog 6 #[.slice (some a) la ca, .slice B lb cb] w fun e w' => e = .returned (.bool true) ∧ Below w.heap.size w w' := by
  have HA := Lib.hid hra
  have HB := Lib.hid hrb
  have HF := Lib.hid hf
  have HG := Lib.hid hg
  clear hra hrb hf hg
  have hm1 : m ≤ 300 := by omega
  have hn1 : n ≤ 300 := by omega
  rcases hm with ⟨em, hc⟩ | ⟨em, hc⟩ <;> rcases hn with ⟨en, hd⟩ | ⟨en, hd⟩
  all_goals
    have EM := Lib.hid em
    have EN := Lib.hid en
    clear em en
    go_enter Try.func6, Try.ntmps6
    go_wp2
    go_region
    first
      | rw [show Value.slice B 300 cb = Value.slice B n cb from by rw [EN.out]]
      | rw [show Value.slice B lb cb = Value.slice B n cb from by rw [EN.out]]
    first
      | rw [show Value.slice (some a) 300 ca = Value.slice (some a) m ca from by rw [EM.out]]
      | rw [show Value.slice (some a) la ca = Value.slice (some a) m ca from by rw [EM.out]]
    clear EM EN hla hlb hca hcb hc hd
    go_wp2_with fail
    refine (All_any _ m _ _ _ (HA.out.below (Below.drew (Below.refl _ _)) (Nat.le_refl _)) HF.out (by omega)).mono ?_
    rintro e w1 ⟨v1, rfl, o1, b1⟩
    obtain ⟨gm, cm, rfl, j1, j2⟩ := o1.form (by rw [allL_len]; exact hm0)
    have O1 := Lib.hid o1
    have B1 := Lib.hid (from_drew b1)
    have R1 := Lib.hid (o1.rowAt (fun i => pPut (f i)) (by rfl) (fun i hi => allL_get f m i (by rw [allL_len] at hi; exact hi)))
    clear o1 b1
    rw [allL_len]
    go_wp2_with fail
    refine (Bad_any _ m _ _ _ (by have := R1.out; rw [allL_len] at this; exact this) (fun i => pPut_bd _ (HF.out i).1) (by omega)).mono ?_
    rintro e w2 ⟨v2, rfl, o2, b2⟩
    have hz : badL (fun i => pPut (f i)) m = [] := badL_put f m HF.out
    rw [hz] at o2
    obtain ⟨A2, c2, rfl, _, _, _⟩ := o2.row
    have O2 := Lib.hid (O1.out.below b2 (Nat.le_refl _))
    have B2 := Lib.hid (B1.out.trans (b2.mono B1.out.size))
    have hs2 := b2.size
    clear o2 b2 O1 B1 R1 hz
    simp only [List.length_nil]
    go_wp2_with (at_make; refine make_fullV w _ rfl _ _ 49 rfl (.bool false) 4 1 Try.underlying49 info_bool rfl w.heap.size m rfl rfl (by omega) (by omega) B2.out B2.out.size ?_; intro w3 o3 b3 b3' hs3; (have O3 := Lib.hid o3; have B3 := Lib.hid b3; have B3' := Lib.hid b3'; clear o3 b3 b3'))
    have hlt : gm < w2.heap.size := by omega
    have OM : Hid (Arr .u16 24 w3 w.heap.size gm m cm (fun i => pPut (f i))) := Arr.of_own (by have := O2.out.below B3'.out (Nat.le_refl _); rw [allL_len] at this; exact this) rfl
    have OD : Hid (ArrV 4 w3 w.heap.size w2.heap.size m m (fun _ => .bool false)) := by have := O3.out; rw [vlst_replicate] at this; exact this
    clear O2 O3 B3' B2 hs2 hs3
    generalize w2.heap.size = gd at hlt OD ⊢
    go_loopw [7] (fun i wr => ∃ k : Nat, k ≤ n ∧ i = .int .i64 k ∧ ∃ (G : Nat → Int) (D : Nat → Bool), Arr .u16 24 wr w.heap.size gm m cm G ∧ ArrV 4 wr w.heap.size gd m m (fun i => .bool (D i)) ∧ Below w.heap.size w wr ∧ (∀ i, 0 ≤ G i ∧ G i < 65536) ∧ ∀ i, odds 16 (G i) = !D i) (fun i _ => n - (intOf i).toNat)
    case atStart => exact ⟨0, by omega, rfl, _, _, OM.out, OD.out, B3.out, fun i => pPut_bd _ (HF.out i).1, fun i => by rw [pPut_odds _ (HF.out i).1]; rfl⟩
    case round =>
      obtain ⟨k, hk, rfl, G, D, om, od, hb, hG, hD⟩ := hrel
      have XM := Lib.hid om
      have XD := Lib.hid od
      have XB := Lib.hid hb
      have XG := Lib.hid hG
      have XO := Lib.hid hD
      clear om od hb hG hD OM OD B3
      by_cases hkn : k < n
      · obtain ⟨p0, p1⟩ := HG.out k
        obtain ⟨p, hp⟩ : ∃ p : Nat, g k / 16 = p := ⟨(g k / 16).toNat, by omega⟩
        have hp1 : (p : Int) ≤ 4095 := by omega
        have hpw : IntKind.u16.wrap ((g k).tdiv 16) = p := by rw [Int.tdiv_eq_ediv_of_nonneg p0, hp]; exact IntWalk.u16_in _ (by omega)
        clear hp
        obtain ⟨at_, hat⟩ : ∃ at_ : Nat, (p : Int) % (m : Int) = at_ := ⟨p % m, by simp⟩
        have hatm : (at_ : Int) < m := by rw [← hat]; exact Int.emod_lt_of_pos _ (by omega)
        have hatn : at_ < m := by omega
        obtain ⟨x0, x1⟩ := XG.out at_
        obtain ⟨y, hy, hE, _, _, hy0, hy1, ho⟩ := flip_facts (G at_) (g k % 16) x0 x1 (by omega) (by omega)
        have cm_ := XM.out.cell hatn
        have fm_ := XM.out.free at_
        have cd_ := XD.out.cell hatn
        have fd_ := XD.out.free at_
        have HO := Lib.hid ho
        clear ho
        obtain ⟨b, rfl, cb_⟩ : ∃ b, B = some b ∧ wr.cell? (b.add k) = some (.int .u16 (g k)) := (HB.out.below XB.out (Nat.le_refl _)) k hkn
        go_wp2
        go_quiet ((go_at_call 9; exact quiet_left (Flip_any _ (by omega) (by omega) _ (by omega) (by omega) _)))
        go_wp2
        have XM1 := (((XM.out.drewN nq).set at_ y).other (p := ⟨gd, at_, none⟩) (by show gm ≠ gd; omega) (.bool (!D at_)))
        have XD1 := (((XD.out.drewN nq).other (p := ⟨gm, at_, none⟩) (by show gd ≠ gm; omega) (.int .u16 y)).set at_ (.bool (!D at_)))
        have XB1 := ((below_drewN XB.out nq).setCell (p := ⟨gm, at_, none⟩) XM.out.lt.1 (.int .u16 y)).setCell (p := ⟨gd, at_, none⟩) XD.out.lt.1 (.bool (!D at_))
        refine ⟨⟨k + 1, by omega, by go_num, fun i => if i = at_ then y else G i, fun i => if i = at_ then !D at_ else D i, XM1, XD1.congr (fun i _ => by by_cases e : i = at_ <;> simp [e]), XB1, fun i => ?_, fun i => ?_⟩, by simp [intOf]; omega⟩
        · dsimp only
          by_cases e : i = at_
          · rw [if_pos e]; exact ⟨hy0, hy1⟩
          · rw [if_neg e]; exact XG.out i
        · dsimp only
          by_cases e : i = at_
          · rw [if_pos e, if_pos e, HO.out, XO.out]
          · rw [if_neg e, if_neg e]; exact XO.out i
      · have e : k = n := by omega
        subst e
        go_wp2_with fail
        refine (Bad_any _ m _ _ _ XM.out.row XG.out (by omega)).mono ?_
        rintro e w4 ⟨v4, rfl, o4, b4⟩
        obtain ⟨q, hq⟩ : ∃ q, (badL G m).length = q := ⟨_, rfl⟩
        have hqm := badL_len G m
        rw [hq] at hqm
        obtain ⟨A4, c4, rfl, _, _, R4⟩ := o4.rowOf q _ hq (fun _ _ => rfl)
        have YD := Lib.hid (XD.out.below b4 (Nat.le_refl _))
        have YB := Lib.hid (XB.out.trans (b4.mono XB.out.size))
        have HQ := Lib.hid hq
        clear hq o4 b4 XM XD XB
        go_wp2
        go_loop [12, 13] (fun kk i => ∃ i' : Nat, i' ≤ m ∧ i = .int .i64 i' ∧ ∃ L : Nat, L ≤ m ∧ kk = .int .i64 L ∧ Hid ((badL G i').length = L)) (fun _ i => m - (intOf i).toNat)
        case atStart => exact ⟨0, by omega, rfl, 0, by omega, rfl, rfl⟩
        case round =>
          obtain ⟨i, hi, rfl, L, hL, rfl, HL⟩ := hrel
          by_cases him : i < m
          · have hcd := YD.out.cell him
            have hDi := XO.out i
            by_cases d : D i = true
            · rw [d] at hcd hDi
              have ho : odds 16 (G i) = false := by rw [hDi]; rfl
              obtain ⟨l1, l2⟩ := badL_next G i m him ho
              rw [HL.out, HQ.out] at l1
              rw [HL.out] at l2
              have HS := Lib.hid (badL_bad G i ho)
              obtain ⟨b4, rfl, hc4⟩ := R4.out L l1
              dsimp only at hc4
              rw [l2] at hc4
              have t1 : ((L : Int) == (q : Int)) = false := by rw [beq_eq_false_iff_ne]; omega
              clear ho hDi d l2
              go_wp2
              go_round
              case rel => exact ⟨i + 1, by omega, by go_num, L + 1, by omega, by go_num, by have := HS.out; have h2 := HL.out; show (badL G (i + 1)).length = L + 1; rw [this, List.length_append, h2]; rfl⟩
              case measure => simp [intOf]; omega
            · have d' : D i = false := by simpa using d
              rw [d'] at hcd hDi
              have ho : odds 16 (G i) = true := by rw [hDi]; rfl
              have HS := Lib.hid (badL_good G i ho)
              clear ho hDi d d'
              go_wp2
              go_round
              case rel => exact ⟨i + 1, by omega, by go_num, L, by omega, rfl, by have := HS.out; have h2 := HL.out; show (badL G (i + 1)).length = L; rw [this, h2]⟩
              case measure => simp [intOf]; omega
          · have e : i = m := by omega
            have hLq : L = q := by
              have h2 := HL.out
              rw [e, HQ.out] at h2
              exact h2.symm
            subst hLq
            subst e
            go_wp2_with (first | (go_at_call 17; refine (works2_any _).mono ?_; rintro e w1 ⟨rfl, rfl⟩))
            go_ret
            exact ⟨rfl, YB.out⟩
set_option maxRecDepth 100000 in
set_option maxHeartbeats 4000000 in
theorem parityBad_nil (A B : Option Addr) (ca lb cb n : Nat) (w : World) (hlb : lb ≤ cb) (hca : ca ≤ 9223372036854775807) (hcb : cb ≤ 9223372036854775807) (hn : (lb = n ∧ (lb : Int) ≤ 300) ∨ (300 = n ∧ ¬ (lb : Int) ≤ 300)) :
    Calls Try.prog 6 #[.slice A 0 ca, .slice B lb cb] w fun e w' => e = .returned (.bool true) ∧ Below w.heap.size w w' := by
  have hn1 : n ≤ 300 := by omega
  rcases hn with ⟨en, hd⟩ | ⟨en, hd⟩
  all_goals
    have EN := Lib.hid en
    clear en
    go_enter Try.func6, Try.ntmps6
    go_wp2
    go_region
    first
      | rw [show Value.slice B 300 cb = Value.slice B n cb from by rw [EN.out]]
      | rw [show Value.slice B lb cb = Value.slice B n cb from by rw [EN.out]]
    clear EN hlb hca hcb hd
    go_wp2_with fail
    refine (All_any _ 0 _ (fun _ => 0) _ Row.nil (fun _ => ⟨by omega, by omega⟩) (by omega)).mono ?_
    rintro e w1 ⟨v1, rfl, o1, b1⟩
    obtain ⟨A1, c1, rfl, _, _, _⟩ := o1.row
    have B1 := Lib.hid (from_drew b1)
    clear o1 b1
    rw [allL_len]
    go_wp2_with fail
    refine (Bad_any _ 0 _ (fun _ => 0) _ Row.nil (fun _ => ⟨by omega, by omega⟩) (by omega)).mono ?_
    rintro e w2 ⟨v2, rfl, o2, b2⟩
    rw [badL_zero] at o2
    obtain ⟨A2, c2, rfl, _, _, _⟩ := o2.row
    have B2 := Lib.hid (B1.out.trans (b2.mono B1.out.size))
    clear o2 b2 B1
    simp only [List.length_nil]
    go_wp2_with (at_make; refine make_fullV w _ rfl _ _ 49 rfl (.bool false) 4 1 Try.underlying49 info_bool rfl w.heap.size 0 rfl rfl (by omega) (by omega) B2.out B2.out.size ?_; intro w3 o3 b3 b3' hs3; (have B3 := Lib.hid b3; clear o3 b3 b3' hs3))
    generalize w2.heap.size = gd
    by_cases hz : n = 0
    · subst hz
      refine wp_loop_rounds 1 ?_
      rw [rounds_succ]
      go_wp2_with fail
      refine (Bad_any _ 0 _ (fun _ => 0) _ Row.nil (fun _ => ⟨by omega, by omega⟩) (by omega)).mono ?_
      rintro e w4 ⟨v4, rfl, o4, b4⟩
      rw [badL_zero] at o4
      obtain ⟨A4, c4, rfl, _, _, _⟩ := o4.row
      have B4 := Lib.hid (B3.out.trans (b4.mono B3.out.size))
      clear o4 b4
      simp only [List.length_nil]
      go_wp2
      refine wp_loop_rounds 1 ?_
      rw [rounds_succ]
      go_wp2_with (first | (go_at_call 17; refine (works2_any _).mono ?_; rintro e w1 ⟨rfl, rfl⟩))
      go_ret
      exact ⟨rfl, B4.out⟩
    · have hp : (0 : Int) < (n : Int) := by omega
      clear hz
      refine wp_loop_rounds 1 ?_
      rw [rounds_succ]
      go_wp2_with fail
      refine (Bad_any _ 0 _ (fun _ => 0) _ Row.nil (fun _ => ⟨by omega, by omega⟩) (by omega)).mono ?_
      rintro e w4 ⟨v4, rfl, o4, b4⟩
      rw [badL_zero] at o4
      obtain ⟨A4, c4, rfl, _, _, _⟩ := o4.row
      have B4 := Lib.hid (B3.out.trans (b4.mono B3.out.size))
      clear o4 b4
      simp only [List.length_nil]
      go_wp2
      refine wp_loop_rounds 1 ?_
      rw [rounds_succ]
      go_wp2_with (first | (go_at_call 17; refine (works2_any _).mono ?_; rintro e w1 ⟨rfl, rfl⟩))
      go_ret
      exact ⟨rfl, B4.out⟩
theorem parityBad_walk (A : Option Addr) (la ca : Nat) (za : List Int) (B : Option Addr) (lb cb : Nat) (zb : List Int) (w : World)
    (ha : (A = none ∧ la = 0 ∧ ca = 0 ∧ za = []) ∨ ∃ x, A = some x ∧ la ≤ ca ∧ ca ≤ maxLen ∧ za.length = ca ∧ (∀ i, i < za.length → w.cell? (x.add i) = some (.int .u16 (za.getD i 0))) ∧ ∀ n ∈ za, (Lit.int .u16 n).wf = true)
    (hb : (B = none ∧ lb = 0 ∧ cb = 0 ∧ zb = []) ∨ ∃ x, B = some x ∧ lb ≤ cb ∧ cb ≤ maxLen ∧ zb.length = cb ∧ (∀ i, i < zb.length → w.cell? (x.add i) = some (.int .u16 (zb.getD i 0))) ∧ ∀ n ∈ zb, (Lit.int .u16 n).wf = true) :
    Calls Try.prog 6 #[.slice A la ca, .slice B lb cb] w fun e w' => e = .returned (.bool true) ∧ Below w.heap.size w w' := by
  obtain ⟨ra, a1, a2, a3, a4⟩ := row_of ha
  obtain ⟨rb, b1, b2, b3, b4⟩ := row_of hb
  by_cases hz : la = 0
  · subst hz
    by_cases d : (lb : Int) ≤ 300
    · exact parityBad_nil A B ca lb cb lb w b1 a2 b2 (.inl ⟨rfl, d⟩)
    · exact parityBad_nil A B ca lb cb 300 w b1 a2 b2 (.inr ⟨rfl, d⟩)
  · obtain ⟨x, rfl, _⟩ := ra 0 (by omega)
    by_cases c : (la : Int) ≤ 300 <;> by_cases d : (lb : Int) ≤ 300
    · exact parityBad_core x B la ca lb cb la lb _ _ w ra rb (getD_u16 a4) (getD_u16 b4) a1 b1 a2 b2 (by omega) (.inl ⟨rfl, c⟩) (.inl ⟨rfl, d⟩)
    · exact parityBad_core x B la ca lb cb la 300 _ _ w ra (rb.take (by omega)) (getD_u16 a4) (getD_u16 b4) a1 b1 a2 b2 (by omega) (.inl ⟨rfl, c⟩) (.inr ⟨rfl, d⟩)
    · exact parityBad_core x B la ca lb cb 300 lb _ _ w (ra.take (by omega)) rb (getD_u16 a4) (getD_u16 b4) a1 b1 a2 b2 (by omega) (.inr ⟨rfl, c⟩) (.inl ⟨rfl, d⟩)
    · exact parityBad_core x B la ca lb cb 300 300 _ _ w (ra.take (by omega)) (rb.take (by omega)) (getD_u16 a4) (getD_u16 b4) a1 b1 a2 b2 (by omega) (.inr ⟨rfl, c⟩) (.inr ⟨rfl, d⟩)
end Go.Proofs.Ytaebepepppfooaa
