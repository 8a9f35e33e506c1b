/- Plain functions of layer 6: what the words are when all pulses are served (CounterOrder). -/
import Derived.Test.YteongalbljdjlaaM06h
set_option linter.unusedSimpArgs false
set_option linter.unusedVariables false
namespace Go.Proofs.Yteongalbljdjlaa
open Go.ChangeShapes Go.WideShapes Go.ChangeAt Go.RowKit
/-- The word x of the counter a when the pulses of M are served. -/
def fin (M : List (Int × Int)) (a x : Int) : Int := M.foldl (fun x p => if p.1 = a then pW x p.2 else x) x
theorem fin_append (M L : List (Int × Int)) (a x : Int) : fin (M ++ L) a x = fin L a (fin M a x) := by unfold fin; rw [List.foldl_append]
theorem fin_snoc (M : List (Int × Int)) (p : Int × Int) (a x : Int) : fin (M ++ [p]) a x = if p.1 = a then pW (fin M a x) p.2 else fin M a x := by rw [fin_append]; rfl
theorem fin_none (M : List (Int × Int)) (a x : Int) (h : ∀ p ∈ M, p.1 ≠ a) : fin M a x = x := by
  induction M generalizing x with
  | nil => rfl
  | cons p M ih =>
    show fin M a (if p.1 = a then pW x p.2 else x) = x
    rw [if_neg (h p (by simp)), ih _ (fun q hq => h q (by simp [hq]))]
theorem fin_bd (M : List (Int × Int)) (a x : Int) (h0 : 0 ≤ x) (h1 : x < 32768) : 0 ≤ fin M a x ∧ fin M a x < 32768 := by
  induction M generalizing x with
  | nil => exact ⟨h0, h1⟩
  | cons p M ih =>
    show 0 ≤ fin M a (if p.1 = a then pW x p.2 else x) ∧ fin M a (if p.1 = a then pW x p.2 else x) < 32768
    split
    · have := pW_bd x p.2 h0 h1; exact ih _ this.1 this.2
    · exact ih _ h0 h1
/-- The next one is the first of the least ones. -/
theorem nx_min (f : Nat → Int) : ∀ n, (∀ j, j < n → f (nx f n) ≤ f j) ∧ (∀ j, j < nx f n → f (nx f n) < f j)
  | 0 => ⟨fun j h => by omega, fun j h => by simp [nx] at h⟩
  | n + 1 => by
    obtain ⟨h1, h2⟩ := nx_min f n
    have e : nx f (n + 1) = if f n < f (nx f n) then n else nx f n := rfl
    by_cases c : f n < f (nx f n)
    · rw [e, if_pos c]
      refine ⟨fun j hj => ?_, fun j hj => ?_⟩
      · by_cases d : j = n
        · subst d; exact Int.le_refl _
        · have := h1 j (by omega); omega
      · have := h1 j hj; omega
    · rw [e, if_neg c]
      refine ⟨fun j hj => ?_, h2⟩
      by_cases d : j = n
      · subst d; omega
      · exact h1 j (by omega)
theorem getD_mem {M : List (Int × Int)} {q : Nat} (h : q < M.length) : M.getD q (0, 0) ∈ M := by
  rw [List.getD_eq_getElem?_getD, List.getElem?_eq_getElem h]; exact List.getElem_mem h
theorem mem_without {M : List (Int × Int)} {q : Nat} {p : Int × Int} (h : p ∈ without M q) : p ∈ M := by
  unfold without at h
  rcases List.mem_append.1 h with h | h
  · exact List.mem_of_mem_take h
  · exact List.mem_of_mem_drop h
theorem split_at (M : List (Int × Int)) (q : Nat) (h : q < M.length) : M = M.take q ++ ([M.getD q (0, 0)] ++ M.drop (q + 1)) := by
  rw [List.getD_eq_getElem?_getD, List.getElem?_eq_getElem h]
  have e : [M[q]] ++ M.drop (q + 1) = M.drop q := by
    rw [← List.getElem_cons_drop h]
    rfl
  show M = M.take q ++ ([M[q]] ++ M.drop (q + 1))
  rw [e, List.take_append_drop]
/-- A pulse is served: the words at the end are the same. -/
theorem fin_without (M : List (Int × Int)) (n q : Nat) (hn : M.length = n) (h0 : 0 < n) (hq : nx (fun i => (M.getD i (0, 0)).1) n = q) (b x : Int) :
    fin (without M q) b (if (M.getD q (0, 0)).1 = b then pW x (M.getD q (0, 0)).2 else x) = fin M b x := by
  have hl : q < M.length := by rw [hn, ← hq]; exact nx_lt _ n h0
  have hm := (nx_min (fun i => (M.getD i (0, 0)).1) n).2
  rw [hq] at hm
  have hne : ∀ p ∈ M.take q, p.1 ≠ (M.getD q (0, 0)).1 := by
    intro p hp
    obtain ⟨j, hj, e⟩ := List.getElem_of_mem hp
    have hj' : j < q := by simp at hj; omega
    have := hm j hj'
    have e2 : M.getD j (0, 0) = p := by
      rw [← e, List.getD_eq_getElem?_getD, List.getElem?_eq_getElem (by omega), List.getElem_take]; rfl
    simp only [e2] at this
    omega
  generalize hp : M.getD q (0, 0) = p at *
  have hs := split_at M q hl
  rw [hp] at hs
  conv => rhs; rw [hs]
  unfold without
  rw [fin_append, fin_append, fin_append]
  show fin (M.drop (q + 1)) b (fin (M.take q) b (if p.1 = b then pW x p.2 else x)) = fin (M.drop (q + 1)) b (if p.1 = b then pW (fin (M.take q) b x) p.2 else fin (M.take q) b x)
  by_cases c : p.1 = b
  · rw [if_pos c, if_pos c, fin_none (M.take q) b x (fun r hr => by rw [← c]; exact hne r hr), fin_none (M.take q) b _ (fun r hr => by rw [← c]; exact hne r hr)]
  · rw [if_neg c, if_neg c]
theorem OwnP.q {T : TypeId} {w : World} {B : Nat} {v : Value} {L : List (Int × Int)} (h : OwnP .i64 .u8 T w B v L) : ∃ A c, v = .slice A L.length c ∧ PlsL w A L ∧ (A = none → c = 0) := by
  obtain ⟨A, c, rfl, hp⟩ := h.prs
  refine ⟨A, c, rfl, hp.pls, fun e => ?_⟩
  subst e
  rcases h.2 with ⟨e, _⟩ | ⟨g, cap, cur, e, _⟩
  · injection e with _ _ e3
  · injection e with e1; cases e1
end Go.Proofs.Yteongalbljdjlaa
