/- The walk of MemoryFixed. -/
import Derived.Test.YtamjknckgaffpaaL03f
import Derived.Test.YtamjknckgaffpaaOpen
set_option linter.unusedSimpArgs false
set_option linter.unusedVariables false
namespace Go.Proofs.Ytamjknckgaffpaa
open Go.ChangeShapes Go.WideShapes Go.ChangeAt Go.RowKit
set_option maxRecDepth 100000 in
set_option maxHeartbeats 4000000 in
theorem memoryFixed_core (A : Option Addr) (la ca n : Nat) (b : BankF) (w : World) (hb : Banks w A n b) (hf : b.Fits) (hla : la ≤ ca) (hca : ca ≤ 9223372036854775807) (hn : (la = n ∧ (la : Int) ≤ 40) ∨ (40 = n ∧ ¬ (la : Int) ≤ 40)) :
    Calls Try.prog 4 #[.slice A la ca] w fun e w' => e = .returned (.bool true) ∧ Below w.heap.size w w' := by
  have HB := Lib.hid hb
  have HF := Lib.hid hf
  clear hb hf
  have hn1 : n ≤ 40 := by omega
  rcases hn with ⟨en, hc⟩ | ⟨en, hc⟩
  all_goals
    have EN := Lib.hid en
    clear en
    go_enter Try.func4, Try.ntmps4
    go_wp2_with fail
    first
      | rw [show Value.slice A 40 ca = Value.slice A n ca from by rw [EN.out]]
      | rw [show Value.slice A la ca = Value.slice A n ca from by rw [EN.out]]
    refine (Fixed_any A n ca b _ HB.out HF.out (by omega)).mono ?_
    rintro e w1 ⟨v1, rfl, o1, b1⟩
    go_wp2_with fail
    refine (rFixed_any A n ca b _ (HB.out.below b1 (Nat.le_refl _)) HF.out (by omega)).mono ?_
    rintro e w2 ⟨v2, rfl, o2, b2⟩
    obtain ⟨q, hq⟩ : ∃ q, (mFixL b n).length = q := ⟨_, rfl⟩
    have hq1 : q ≤ 36864 := by
      rw [← hq]; unfold mFixL
      split
      · rw [lst_len]; exact Nat.le_refl _
      · simp
    obtain ⟨A1, c1, rfl, _, _, R1⟩ := (o1.below b2 (Nat.le_refl _)).rowOf q _ hq (fun _ _ => rfl)
    obtain ⟨A2, c2, rfl, _, _, R2⟩ := o2.rowOf q _ hq (fun _ _ => rfl)
    have B2 := Lib.hid (b1.trans (b2.mono b1.size))
    clear o1 o2 b1 b2 hq EN
    go_wp2_with fail
    refine (rSame_any _ _ _ _ _ _ _ _ R1.out R2.out (fun _ _ => rfl) (by omega)).mono ?_
    rintro e w3 ⟨rfl, m3, rfl⟩
    go_wp2_with fail
    refine (Erasable_any _).mono ?_
    rintro e w4 ⟨v4, rfl, o4, b4⟩
    replace b4 := from_drewN b4
    go_wp2_with fail
    refine (rErasable_any _).mono ?_
    rintro e w5 ⟨v5, rfl, o5, b5⟩
    obtain ⟨A4, c4, rfl, _, _, R4⟩ := (o4.below b5 (Nat.le_refl _)).rowOf 2048 _ (lst_len _ _) (fun _ _ => rfl)
    obtain ⟨A5, c5, rfl, _, _, R5⟩ := o5.rowOf 2048 _ (lst_len _ _) (fun _ _ => rfl)
    have B5 := Lib.hid ((B2.out.trans (b4.mono B2.out.size)).trans (b5.mono (B2.out.trans (b4.mono B2.out.size)).size))
    clear o4 o5 b4 b5
    go_wp2_with fail
    refine (rSame_any _ _ _ _ _ _ _ _ R4.out R5.out (fun _ _ => rfl) (by omega)).mono ?_
    rintro e w6 ⟨rfl, m6, rfl⟩
    go_wp2_with fail
    refine (works3_any _).mono ?_
    rintro e w7 ⟨rfl, b7⟩
    replace b7 := from_drewN b7
    have B7 := Lib.hid (B5.out.trans (b7.mono B5.out.size))
    clear b7
    go_wp2
    go_ret
    exact ⟨rfl, B7.out⟩
theorem memoryFixed_walk (A : Option Addr) (la ca : Nat) (b : BankF) (w : World) (h : IsBanks w A la ca b) :
    Calls Try.prog 4 #[.slice A la ca] w fun e w' => e = .returned (.bool true) ∧ Below w.heap.size w w' := by
  obtain ⟨hb, h1, h2, hf⟩ := h
  by_cases d : (la : Int) ≤ 40
  · exact memoryFixed_core A la ca la b w hb hf h1 h2 (.inl ⟨rfl, d⟩)
  · exact memoryFixed_core A la ca 40 b w (hb.take (by omega)) hf h1 h2 (.inr ⟨rfl, d⟩)
end Go.Proofs.Ytamjknckgaffpaa
