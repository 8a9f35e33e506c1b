/- The walk of ParityLists. -/
import Derived.Test.YtaebepepppfooaaL02e
set_option linter.unusedSimpArgs false
set_option linter.unusedVariables false
namespace Go.Proofs.Ytaebepepppfooaa
open Go.ChangeShapes Go.WideShapes Go.ChangeAt Go.RowKit
set_option maxRecDepth 100000 in
set_option maxHeartbeats 4000000 in
theorem parityLists_core (A B : Option Addr) (la ca lb cb m n : Nat) (f g : Nat → Int) (w : World) (hra : Row .u16 w A m f) (hrb : Row .u16 w B n g) (hf : ∀ i, 0 ≤ f i ∧ f i < 65536) (hg : ∀ i, 0 ≤ g i ∧ g i < 65536)
    (hla : la ≤ ca) (hlb : lb ≤ cb) (hca : ca ≤ 9223372036854775807) (hcb : cb ≤ 9223372036854775807) (hna : A = none → ca = 0) (hnb : B = none → cb = 0)
    (hm : (la = m ∧ (la : Int) ≤ 3000) ∨ (m = 3000 ∧ ¬ (la : Int) ≤ 3000)) (hn : (lb = n ∧ (lb : Int) ≤ 3000) ∨ (n = 3000 ∧ ¬ (lb : Int) ≤ 3000)) :
    Calls Try.prog 4 #[.slice A la ca, .slice B lb cb] w fun e w' => e = .returned (.bool true) ∧ Below w.heap.size w w' := by
  have HA := Lib.hid hra
  have HB := Lib.hid hrb
  have HF := Lib.hid hf
  have HG := Lib.hid hg
  have NA := Lib.hid hna
  have NB := Lib.hid hnb
  clear hra hrb hf hg hna hnb
  obtain ⟨q, hq⟩ : ∃ q, (badL g n).length = q := ⟨_, rfl⟩
  have hql := badL_len g n
  rw [hq] at hql
  have HQ := Lib.hid hq
  clear hq
  rcases hm with ⟨rfl, hc⟩ | ⟨rfl, hc⟩ <;> rcases hn with ⟨rfl, hd⟩ | ⟨rfl, hd⟩
  all_goals
    go_enter Try.func4, Try.ntmps4
    go_wp2
    go_region
    go_wp2_with (first
      | (at_builtin; refine app_row rfl _ _ 36 rfl .u16 23 2 Try.underlying36 info_word w _ w.heap.size (.slice none 0 0) [] A _ _ f (Own.nil _ _ _ _) (HA.out.below (below_drewN (Below.refl _ _) _) (Nat.le_refl _)) NA.out rfl rfl (by refine ⟨?_, ?_⟩ <;> simp only [List.length_nil] <;> omega) (below_drewN (Below.refl _ _) _) (Nat.le_refl _) ?_; intro v1 w1 o1 b1 g1; (simp only [List.nil_append] at o1); (have O1 := Lib.hid o1; have B1 := Lib.hid b1; clear o1 b1 g1))
      | (at_builtin; refine app_row rfl _ _ 37 rfl .u16 24 2 Try.underlying37 info_stored w _ w.heap.size (.slice none 0 0) [] B _ _ g (Own.nil _ _ _ _) (HB.out.below B1.out (Nat.le_refl _)) NB.out rfl rfl (by refine ⟨?_, ?_⟩ <;> simp only [List.length_nil] <;> omega) B1.out B1.out.size ?_; intro v2 w2 o2 b2 g2; (simp only [List.nil_append] at o2); (have O1' := Lib.hid (O1.out.below (below_of_grown g2) (Nat.le_refl _)); have O2 := Lib.hid o2; have B2 := Lib.hid b2; clear o2 b2 g2)))
    refine (All_any _ _ _ _ _ (HA.out.below B2.out (Nat.le_refl _)) HF.out (by omega)).mono ?_
    rintro e w3 ⟨v3, rfl, o3, b3⟩
    have O31 := Lib.hid (O1'.out.below b3 (Nat.le_refl _))
    have O32 := Lib.hid (O2.out.below b3 (Nat.le_refl _))
    have O33 := Lib.hid (o3.low B2.out.size)
    have B3 := Lib.hid (B2.out.trans (b3.mono B2.out.size))
    clear o3 b3 O1 O1' O2
    go_wp2_with fail
    refine (Bad_any _ _ _ _ _ (HB.out.below B3.out (Nat.le_refl _)) HG.out (by omega)).mono ?_
    rintro e w4 ⟨v4, rfl, o4, b4⟩
    have O41 := Lib.hid (O31.out.below b4 (Nat.le_refl _))
    have O42 := Lib.hid (O32.out.below b4 (Nat.le_refl _))
    have O43 := Lib.hid (O33.out.below b4 (Nat.le_refl _))
    have O44 := Lib.hid (o4.low B3.out.size)
    have B4 := Lib.hid (B3.out.trans (b4.mono B3.out.size))
    clear o4 b4 O31 O32 O33
    obtain ⟨X1, c1, rfl, l1, m1, R1⟩ := O41.out.rowOf _ f (lst_len _ f) (fun i hi => lst_get _ f i hi)
    obtain ⟨X2, c2, rfl, l2, m2, R2⟩ := O42.out.rowOf _ g (lst_len _ g) (fun i hi => lst_get _ g i hi)
    obtain ⟨X3, c3, rfl, l3, m3, R3⟩ := O43.out.rowOf _ (fun i => pPut (f i)) (allL_len f _) (allL_get f _)
    obtain ⟨X4, c4, rfl, l4, m4, R4⟩ := O44.out.rowOf q _ HQ.out (fun _ _ => rfl)
    clear O41 O42 O43 O44 B1 B2 B3
    go_wp2_with fail
    refine (rAll_any _ _ _ _ _ R1.out HF.out (by omega)).mono ?_
    rintro e w5 ⟨v5, rfl, o5, b5⟩
    obtain ⟨X5, c5, rfl, l5, m5, R5⟩ := o5.rowOf _ (fun i => pPut (f i)) (allL_len f _) (allL_get f _)
    have S1 := Lib.hid (R1.out.below b5 (Nat.le_refl _))
    have S2 := Lib.hid (R2.out.below b5 (Nat.le_refl _))
    have S3 := Lib.hid (R3.out.below b5 (Nat.le_refl _))
    have S4 := Lib.hid (R4.out.below b5 (Nat.le_refl _))
    have B5 := Lib.hid (B4.out.trans (b5.mono B4.out.size))
    clear o5 b5 R1 R2 R3 R4 B4
    go_wp2_with fail
    refine (rSame_any _ _ _ _ _ _ _ _ S3.out R5.out (fun _ _ => rfl) (by omega)).mono ?_
    rintro e w6 ⟨rfl, m6, rfl⟩
    go_wp2_with fail
    refine (rBad_any _ _ _ _ _ (S2.out.below (below_drewN (Below.refl _ _) _) (Nat.le_refl _)) HG.out (by omega)).mono ?_
    rintro e w7 ⟨v7, rfl, o7, b7⟩
    replace b7 := from_drewN b7
    obtain ⟨X7, c7, rfl, l7, m7, R7⟩ := o7.rowOf q _ HQ.out (fun _ _ => rfl)
    have T1 := Lib.hid (S1.out.below b7 (Nat.le_refl _))
    have T2 := Lib.hid (S2.out.below b7 (Nat.le_refl _))
    have T4 := Lib.hid (S4.out.below b7 (Nat.le_refl _))
    have B7 := Lib.hid (B5.out.trans (b7.mono B5.out.size))
    clear o7 b7 S1 S2 S3 S4 B5
    go_wp2_with fail
    refine (rInts_any _ _ _ _ _ _ _ _ T4.out R7.out (fun _ _ => rfl) (by omega)).mono ?_
    rintro e w8 ⟨rfl, m8, rfl⟩
    go_wp2_with fail
    refine (rWords_any _ _ _ _ _ _ _ _ ((HA.out.below B7.out (Nat.le_refl _)).drewN _) (T1.out.drewN _) (fun _ _ => rfl) (by omega)).mono ?_
    rintro e w9 ⟨rfl, m9, rfl⟩
    go_wp2_with fail
    refine (rSame_any _ _ _ _ _ _ _ _ ((HB.out.below B7.out (Nat.le_refl _)).drewN _) (T2.out.drewN _) (fun _ _ => rfl) (by omega)).mono ?_
    rintro e w10 ⟨rfl, m10, rfl⟩
    go_wp2_with (first | (go_at_call 17; refine (works2_any _).mono ?_; rintro e w1 ⟨rfl, rfl⟩))
    go_ret
    exact ⟨rfl, by repeat (first | exact B7.out | apply below_drewN)⟩
theorem parityLists_walk (A : Option Addr) (la ca : Nat) (za : List Int) (B : Option Addr) (lb cb : Nat) (zb : List Int) (w : World)
    (ha : (A = none ∧ la = 0 ∧ ca = 0 ∧ za = []) ∨ ∃ x, A = some x ∧ la ≤ ca ∧ ca ≤ maxLen ∧ za.length = ca ∧ (∀ i, i < za.length → w.cell? (x.add i) = some (.int .u16 (za.getD i 0))) ∧ ∀ n ∈ za, (Lit.int .u16 n).wf = true)
    (hb : (B = none ∧ lb = 0 ∧ cb = 0 ∧ zb = []) ∨ ∃ x, B = some x ∧ lb ≤ cb ∧ cb ≤ maxLen ∧ zb.length = cb ∧ (∀ i, i < zb.length → w.cell? (x.add i) = some (.int .u16 (zb.getD i 0))) ∧ ∀ n ∈ zb, (Lit.int .u16 n).wf = true) :
    Calls Try.prog 4 #[.slice A la ca, .slice B lb cb] w fun e w' => e = .returned (.bool true) ∧ Below w.heap.size w w' := by
  obtain ⟨ra, a1, a2, a3, a4⟩ := row_of ha
  obtain ⟨rb, b1, b2, b3, b4⟩ := row_of hb
  have na : A = none → ca = 0 := fun e => by
    rcases a3 with h | ⟨x, h⟩
    · exact h
    · rw [e] at h; cases h
  have nb : B = none → cb = 0 := fun e => by
    rcases b3 with h | ⟨x, h⟩
    · exact h
    · rw [e] at h; cases h
  by_cases c : (la : Int) ≤ 3000 <;> by_cases d : (lb : Int) ≤ 3000
  · exact parityLists_core A B la ca lb cb la lb _ _ w ra rb (getD_u16 a4) (getD_u16 b4) a1 b1 a2 b2 na nb (.inl ⟨rfl, c⟩) (.inl ⟨rfl, d⟩)
  · exact parityLists_core A B la ca lb cb la 3000 _ _ w ra (rb.take (by omega)) (getD_u16 a4) (getD_u16 b4) a1 b1 a2 b2 na nb (.inl ⟨rfl, c⟩) (.inr ⟨rfl, d⟩)
  · exact parityLists_core A B la ca lb cb 3000 lb _ _ w (ra.take (by omega)) rb (getD_u16 a4) (getD_u16 b4) a1 b1 a2 b2 na nb (.inr ⟨rfl, c⟩) (.inl ⟨rfl, d⟩)
  · exact parityLists_core A B la ca lb cb 3000 3000 _ _ w (ra.take (by omega)) (rb.take (by omega)) (getD_u16 a4) (getD_u16 b4) a1 b1 a2 b2 na nb (.inr ⟨rfl, c⟩) (.inr ⟨rfl, d⟩)
end Go.Proofs.Ytaebepepppfooaa
