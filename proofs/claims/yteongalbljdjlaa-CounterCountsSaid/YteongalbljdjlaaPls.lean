/- Queues of pulses that are read; which one is served next. -/
import Derived.Test.YteongalbljdjlaaL06b
set_option linter.unusedSimpArgs false
set_option linter.unusedVariables false
set_option maxRecDepth 100000
namespace Go.Proofs.Yteongalbljdjlaa
open Go.ChangeShapes Go.WideShapes Go.ChangeAt Go.RowKit
/-- The slice at A has in its first n places the pulses (f 0, g 0), (f 1, g 1), .. -/
def Pls (w : World) (A : Option Addr) (n : Nat) (f g : Nat → Int) : Prop := ∀ i, i < n → ∃ a, A = some a ∧ w.cell? (a.add (i * 2)) = some (.int .i64 (f i)) ∧ w.cell? ⟨(a.add (i * 2)).block, (a.add (i * 2)).off + 1, none⟩ = some (.int .u8 (g i))
theorem Pls.below {w w' : World} {A : Option Addr} {n : Nat} {f g : Nat → Int} {B : Nat} (hc : Pls w A n f g) (hb : Below B w w') (hB : w.heap.size ≤ B) : Pls w' A n f g := by
  intro i hi
  obtain ⟨a, e, h1, h2⟩ := hc i hi
  exact ⟨a, e, (hb.cell (Nat.lt_of_lt_of_le (lt_of_cell h1) hB)).trans h1, (hb.cell (Nat.lt_of_lt_of_le (lt_of_cell h2) hB)).trans h2⟩
theorem Pls.drewN {w : World} {A : Option Addr} {n : Nat} {f g : Nat → Int} (hc : Pls w A n f g) (m : Nat) : Pls (w.drewN m) A n f g := hc
theorem Pls.take {w : World} {A : Option Addr} {n m : Nat} {f g : Nat → Int} (hc : Pls w A n f g) (hm : m ≤ n) : Pls w A m f g := fun i hi => hc i (by omega)
theorem Pls.at_ {w : World} {a : Addr} {n : Nat} {f g : Nat → Int} (hc : Pls w (some a) n f g) {i : Nat} (hi : i < n) : w.cell? (a.add (i * 2)) = some (.int .i64 (f i)) ∧ w.cell? ⟨(a.add (i * 2)).block, (a.add (i * 2)).off + 1, none⟩ = some (.int .u8 (g i)) := by
  obtain ⟨b, e, h1⟩ := hc i hi
  cases e; exact h1
theorem plsCase {w : World} {A : Option Addr} {n : Nat} {f g : Nat → Int} (hc : Pls w A n f g) : Hid (Pls w A n f g) ∧ (Hid (n = 0) ∨ ∃ a, A = some a) := by
  refine ⟨hc, ?_⟩
  by_cases c : n = 0
  · exact .inl c
  · obtain ⟨a, e, _⟩ := hc 0 (by omega); exact .inr ⟨a, e⟩
theorem Prs.pls {w : World} {A : Option Addr} {L : List (Int × Int)} (h : Prs .i64 .u8 w A L) : Pls w A L.length (fun i => (L.getD i (0, 0)).1) (fun i => (L.getD i (0, 0)).2) := by
  intro i hi
  obtain ⟨g, e, h1, h2⟩ := h i hi
  have ea : (⟨g, 0, none⟩ : Addr).add (i * 2) = ⟨g, i * 2, none⟩ := by
    unfold Addr.add
    by_cases c : i = 0
    · simp [c]
    · rw [if_neg (by omega)]; simp
  exact ⟨_, e, by rw [ea]; exact h1, by rw [ea]; exact h2⟩
/-- Which of the first n is served next. -/
def nx (f : Nat → Int) : Nat → Nat
  | 0 => 0
  | n + 1 => if f n < f (nx f n) then n else nx f n
theorem nx_lt (f : Nat → Int) : ∀ n, 0 < n → nx f n < n
  | n + 1, _ => by
    unfold nx
    by_cases c : f n < f (nx f n)
    · rw [if_pos c]; omega
    · rw [if_neg c]
      by_cases h : n = 0
      · subst h; exact Nat.zero_lt_one
      · have := nx_lt f n (by omega); omega
theorem nx_le (f : Nat → Int) (n : Nat) : nx f n ≤ n := by
  by_cases h : n = 0
  · subst h; exact Nat.le_refl _
  · have := nx_lt f n (by omega); omega
set_option maxHeartbeats 2000000 in
theorem Next_any (A : Option Addr) (n c : Nat) (f g : Nat → Int) (hn : n ≤ 100000) (w : World) (hp : Pls w A n f g) :
    Calls Try.prog 8 #[.slice A n c] w fun e w' => e = .returned (.tuple #[.int .i64 (nx f n), .bool (decide (0 < n))]) ∧ Below w.heap.size w w' := by
  obtain ⟨HP, hA⟩ := plsCase hp
  clear hp
  rcases hA with H0 | ⟨a, rfl⟩
  all_goals
    go_enter Try.func8, Try.ntmps8
    go_wp2
    go_loopw [4, 9] (fun x i wr => ∃ k : Nat, k ≤ n ∧ x = .int .i64 (nx f k) ∧ i = .int .i64 k ∧ Below w.heap.size w wr) (fun _ i _ => n - (intOf i).toNat)
    case atStart => exact ⟨0, Nat.zero_le _, rfl, rfl, Below.refl _ _⟩
    case round =>
      obtain ⟨k, hk, rfl, rfl, hb⟩ := hrel
      by_cases hlt : k < n
      · first
          | (exfalso; have := H0.out; omega)
          | (have hz := hb.size
             have HPW := HP.out.below hb (Nat.le_refl _)
             obtain ⟨d1, d2⟩ := HPW.at_ hlt
             have hq : nx f k < n := by have := nx_le f k; omega
             obtain ⟨d3, d4⟩ := HPW.at_ hq
             have HB := Lib.hid hb
             have HPA := Lib.hid (HPW.below ((Below.refl wr.heap.size wr).alloc (Nat.le_refl _) (.cells #[.int .i64 (f k), .int .u8 (g k)] 25)) (Nat.le_refl _))
             have HX := Lib.hid (show nx f (k + 1) = if f k < f (nx f k) then k else nx f k from rfl)
             clear hb HPW
             have E3 := Lib.hid (HPA.out.at_ hq).1
             generalize nx f k = q at d3 d4 E3 HX hq ⊢
             by_cases hc : f k < f q
             · have HY := Lib.hid (show nx f (k + 1) = k by rw [HX.out, if_pos hc])
               clear HX
               have e3 := E3.out
               go_wp2
               go_quiet (fail)
               clear e3
               go_wp2
               go_roundw
               case rel => exact ⟨k + 1, by omega, by rw [HY.out], by go_num, below_drewN (HB.out.alloc hz _) _⟩
               case measure => simp [intOf]; omega
             · have HY := Lib.hid (show nx f (k + 1) = q by rw [HX.out, if_neg hc])
               clear HX
               have e3 := E3.out
               go_wp2
               go_quiet (fail)
               clear e3
               go_wp2
               go_roundw
               case rel => exact ⟨k + 1, by omega, by rw [HY.out], by go_num, below_drewN (HB.out.alloc hz _) _⟩
               case measure => simp [intOf]; omega)
      · have e : k = n := by omega
        subst e
        have HB := Lib.hid hb
        clear hb
        go_wp2
        go_ret2
        exact ⟨rfl, HB.out⟩
end Go.Proofs.Yteongalbljdjlaa
