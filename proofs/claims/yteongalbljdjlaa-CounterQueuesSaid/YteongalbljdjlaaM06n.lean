/- Layer 6: Serve of both, whatever the queue is; lists that are compared wherever they lie. -/
import Derived.Test.YteongalbljdjlaaM06m
import Derived.Test.YteongalbljdjlaaP06b
set_option linter.unusedSimpArgs false
set_option linter.unusedVariables false
set_option maxRecDepth 100000
namespace Go.Proofs.Yteongalbljdjlaa
open Go.ChangeShapes Go.WideShapes Go.ChangeAt Go.RowKit
/-- The list of n pairs. -/
def prl (n : Nat) (f g : Nat → Int) : List (Int × Int) := (List.range n).map (fun i => (f i, g i))
theorem prl_len (n : Nat) (f g : Nat → Int) : (prl n f g).length = n := by simp [prl]
theorem prl_get (n : Nat) (f g : Nat → Int) (i : Nat) (hi : i < n) : (prl n f g).getD i (0, 0) = (f i, g i) := by simp [prl, List.getD_eq_getElem?_getD, hi]
theorem Pls.toL {w : World} {A : Option Addr} {n : Nat} {f g : Nat → Int} (h : Pls w A n f g) : PlsL w A (prl n f g) := by
  intro i hi
  rw [prl_len] at hi
  obtain ⟨a, e, h1, h2⟩ := h i hi
  exact ⟨a, e, by show _ = some (Value.int .i64 ((prl n f g).getD i (0, 0)).1); rw [prl_get n f g i hi]; exact h1, by show _ = some (Value.int .u8 ((prl n f g).getD i (0, 0)).2); rw [prl_get n f g i hi]; exact h2⟩
theorem prl_mem {n : Nat} {f g : Nat → Int} {p : Int × Int} (h : p ∈ prl n f g) : ∃ i, i < n ∧ p = (f i, g i) := by
  unfold prl at h
  obtain ⟨i, hi, e⟩ := List.mem_map.1 h
  exact ⟨i, List.mem_range.1 hi, e.symm⟩
def SvAll (L : List (Int × Int)) (a x s er : Int) (w : World) (e : Ending) (w' : World) : Prop := ∃ v, e = .returned (.tuple #[v, .agg #[.int .i64 a, .int .u16 x], .int .i64 s, .int .i64 er]) ∧ OwnP .i64 .u8 25 w' w.heap.size v L ∧ Below w.heap.size w w'
theorem SvErr.all {er : Int} {w : World} {e : Ending} {w' : World} (h : SvErr er w e w') : SvAll [] 0 0 0 er w e w' := ⟨_, h.1, OwnP.nil _ _ _ _ _, h.2⟩
theorem SvRet.all {L : List (Int × Int)} {a x s : Int} {w : World} {e : Ending} {w' : World} (h : SvRet L a x s w e w') : SvAll L a x s 0 w e w' := h
theorem Serve_all (n : Nat) (M : List (Int × Int)) (hM : M.length = n) (hn : n ≤ 50000) (m : Nat) (h : Nat → Int) (hh : ∀ i, 0 ≤ h i ∧ h i < 65536) :
    ∃ L a x s er, L.length ≤ n ∧
      (∀ (A : Option Addr) (c : Nat) (B : Option Addr) (d : Nat) (w : World), n ≤ c → PlsL w A M → Row .u16 w B m h → Calls Try.prog 12 #[.slice A n c, .slice B m d] w (SvAll L a x s er w)) ∧
      (∀ (A : Option Addr) (c : Nat) (B : Option Addr) (d : Nat) (w : World), n ≤ c → PlsL w A M → Row .u16 w B m h → Calls Try.prog 13 #[.slice A n c, .slice B m d] w (SvAll L a x s er w)) := by
  by_cases h0 : n = 0
  · subst h0
    exact ⟨[], 0, 0, 0, 14, by simp, fun A c B d w _ _ _ => (Serve_empty A c B m d w).mono fun e w' k => k.all, fun A c B d w _ _ _ => (rServe_empty A c B m d w).mono fun e w' k => k.all⟩
  · have h1 : 0 < n := by omega
    obtain ⟨q, hq⟩ : ∃ q, nx (fun i => (M.getD i (0, 0)).1) n = q := ⟨_, rfl⟩
    have hqlt : q < M.length := by rw [hM, ← hq]; exact nx_lt _ _ h1
    by_cases hs : (M.getD q (0, 0)).1 < 0 ∨ (m : Int) ≤ (M.getD q (0, 0)).1
    · have hs' : (fun i => (M.getD i (0, 0)).1) (nx (fun i => (M.getD i (0, 0)).1) n) < 0 ∨ (m : Int) ≤ (fun i => (M.getD i (0, 0)).1) (nx (fun i => (M.getD i (0, 0)).1) n) := by rw [hq]; exact hs
      exact ⟨[], 0, 0, 0, 9, by simp, fun A c B d w _ hp _ => (Serve_short A n c _ _ (by omega) h1 B m d w (by rw [← hM]; exact hp) hs').mono fun e w' k => k.all, fun A c B d w _ hp _ => (rServe_short A n c _ _ (by omega) h1 B m d w (by rw [← hM]; exact hp) hs').mono fun e w' k => k.all⟩
    · obtain ⟨k, hk⟩ : ∃ k : Nat, (M.getD q (0, 0)).1 = (k : Int) := ⟨(M.getD q (0, 0)).1.toNat, by omega⟩
      have hkm : k < m := by omega
      by_cases hg : 1 ≤ (M.getD q (0, 0)).2 ∧ (M.getD q (0, 0)).2 ≤ 7
      · exact ⟨without M q, k, pW (h k % 32768) (M.getD q (0, 0)).2, pS (h k % 32768) (M.getD q (0, 0)).2, 0, by rw [without_len hqlt]; omega,
          fun A c B d w hc hp hr => (Serve_yes A n c M hM hn h1 hc B m d h w hp hr q hq k hkm hk _ rfl (hh k) _ rfl hg _ _ rfl rfl).mono fun e w' k => k.all,
          fun A c B d w hc hp hr => (rServe_yes A n c M hM hn h1 hc B m d h w hp hr q hq k hkm hk _ rfl (hh k) _ rfl hg _ _ rfl rfl).mono fun e w' k => k.all⟩
      · have hk' : (fun i => (M.getD i (0, 0)).1) (nx (fun i => (M.getD i (0, 0)).1) n) = (k : Int) := by rw [hq]; exact hk
        have hg' : ¬ (1 ≤ (fun i => (M.getD i (0, 0)).2) (nx (fun i => (M.getD i (0, 0)).1) n) ∧ (fun i => (M.getD i (0, 0)).2) (nx (fun i => (M.getD i (0, 0)).1) n) ≤ 7) := by rw [hq]; exact hg
        exact ⟨[], 0, 0, 0, 2, by simp, fun A c B d w _ hp hr => (Serve_bad A n c _ _ (by omega) h1 B m d h w (by rw [← hM]; exact hp) hr k hkm hk' _ rfl (hh k) hg').mono fun e w' k => k.all, fun A c B d w _ hp hr => (rServe_bad A n c _ _ (by omega) h1 B m d h w (by rw [← hM]; exact hp) hr k hkm hk' _ rfl (hh k) hg').mono fun e w' k => k.all⟩
theorem NextL_any (A : Option Addr) (n c : Nat) (M : List (Int × Int)) (hM : M.length = n) (hn : n ≤ 100000) (w : World) (hp : PlsL w A M) :
    Calls Try.prog 8 #[.slice A n c] w fun e w' => e = .returned (.tuple #[.int .i64 (nx (fun i => (M.getD i (0, 0)).1) n), .bool (decide (0 < n))]) ∧ Below w.heap.size w w' := Next_any A n c _ _ hn w (by rw [← hM]; exact hp)
theorem rNextL_any (A : Option Addr) (n c : Nat) (M : List (Int × Int)) (hM : M.length = n) (hn : n ≤ 100000) (w : World) (hp : PlsL w A M) :
    Calls Try.prog 9 #[.slice A n c] w fun e w' => e = .returned (.tuple #[.int .i64 (nx (fun i => (M.getD i (0, 0)).1) n), .bool (decide (0 < n))]) ∧ Below w.heap.size w w' := rNext_any A n c _ _ hn w (by rw [← hM]; exact hp)
set_option maxHeartbeats 2000000 in
theorem Same_pls (A1 A2 : Option Addr) (c1 c2 n : Nat) (L : List (Int × Int)) (hn : L.length = n) (w : World) (h1 : PlsL w A1 L) (h2 : PlsL w A2 L) (hl : n ≤ 100000) :
    Calls Try.prog 7 #[.slice A1 n c1, .slice A2 n c2] w fun e w' => e = .returned (.bool true) ∧ Below w.heap.size w w' := by
  subst hn
  have H1 := Lib.hid h1
  have H2 := Lib.hid h2
  clear h1 h2
  obtain ⟨n, hn⟩ : ∃ n, L.length = n := ⟨_, rfl⟩
  rw [hn] at hl ⊢
  have HN := Lib.hid hn
  clear hn
  go_enter Try.func7, Try.ntmps7
  go_wp2
  go_loopw [5] (fun j wr => ∃ k : Nat, k ≤ n ∧ j = .int .i64 k ∧ ∃ m, wr = w.drewN m) (fun j _ => n - (intOf j).toNat)
  case atStart => exact ⟨0, Nat.zero_le _, rfl, 0, rfl⟩
  case round =>
    obtain ⟨k, hk, rfl, m, rfl⟩ := hrel
    by_cases hlt : k < n
    · obtain ⟨g1, rfl, d1, d2⟩ := H1.out k (by rw [HN.out]; exact hlt)
      obtain ⟨g2, rfl, d3, d4⟩ := H2.out k (by rw [HN.out]; exact hlt)
      change _ = some (Value.int .i64 (L.getD k (0, 0)).1) at d1 d3
      change _ = some (Value.int .u8 (L.getD k (0, 0)).2) at d2 d4
      generalize (L.getD k (0, 0)).1 = p at d1 d3
      generalize (L.getD k (0, 0)).2 = q at d2 d4
      go_wp2
      go_quiet (fail)
      go_wp2
      exact ⟨⟨k + 1, by omega, by go_num, _, rfl⟩, by simp [intOf]; omega⟩
    · have e : k = n := by omega
      subst e
      go_wp2
      go_ret
      exact ⟨rfl, below_drewN (Below.refl _ _) _⟩
end Go.Proofs.Yteongalbljdjlaa
