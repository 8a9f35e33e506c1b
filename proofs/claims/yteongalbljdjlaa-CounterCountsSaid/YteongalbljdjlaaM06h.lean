/- Contracts of layer 6: Serve where it answers. -/
import Derived.Test.YteongalbljdjlaaM06g
import Derived.Deep.RegionLaw
set_option linter.unusedSimpArgs false
set_option linter.unusedVariables false
set_option maxRecDepth 100000
namespace Go.Proofs.Yteongalbljdjlaa
open Go.ChangeShapes Go.WideShapes Go.ChangeAt Go.RowKit
/-- The queue without the pulse i. -/
def without (M : List (Int × Int)) (i : Nat) : List (Int × Int) := M.take i ++ M.drop (i + 1)
theorem without_len {M : List (Int × Int)} {i : Nat} (h : i < M.length) : (without M i).length = M.length - 1 := by unfold without; simp; omega
theorem PlsL.take {w : World} {A : Option Addr} {M : List (Int × Int)} (h : PlsL w A M) (i : Nat) : PlsL w A (M.take i) := by
  intro j hj
  have hj' : j < M.length ∧ j < i := by simp at hj; omega
  obtain ⟨a, e, h1, h2⟩ := h j hj'.1
  have e1 : (M.take i).getD j (0, 0) = M.getD j (0, 0) := by simp [List.getD_eq_getElem?_getD, List.getElem?_take, hj'.2]
  exact ⟨a, e, by show _ = some (Value.int .i64 ((M.take i).getD j (0, 0)).1); rw [e1]; exact h1, by show _ = some (Value.int .u8 ((M.take i).getD j (0, 0)).2); rw [e1]; exact h2⟩
theorem PlsL.drop {w : World} {a : Addr} {M : List (Int × Int)} (h : PlsL w (some a) M) (i : Nat) : PlsL w (some (a.add (i * 2))) (M.drop i) := by
  intro j hj
  have hj' : i + j < M.length := by simp at hj; omega
  obtain ⟨b, e, h1, h2⟩ := h (i + j) hj'
  cases e
  have e1 : (M.drop i).getD j (0, 0) = M.getD (i + j) (0, 0) := by simp [List.getD_eq_getElem?_getD]
  have ea : (a.add (i * 2)).add (j * 2) = a.add ((i + j) * 2) := by
    unfold Addr.add
    by_cases c1 : i = 0
    · subst c1; simp
    · by_cases c2 : j = 0
      · subst c2; simp
      · rw [if_neg (show ¬ i * 2 = 0 by omega), if_neg (show ¬ j * 2 = 0 by omega), if_neg (show ¬ (i + j) * 2 = 0 by omega)]
        simp
        omega
  exact ⟨_, rfl, by show _ = some (Value.int .i64 ((M.drop i).getD j (0, 0)).1); rw [ea, e1]; exact h1, by show _ = some (Value.int .u8 ((M.drop i).getD j (0, 0)).2); rw [ea, e1]; exact h2⟩
theorem dropQ {w : World} {a : Addr} {M : List (Int × Int)} (h : PlsL w (some a) M) (i c : Nat) (hc : M.length ≤ c) : PlsL w (if c = i then some a else some (a.add (i * 2))) (M.drop i) := by
  by_cases e : c = i
  · rw [if_pos e]
    intro j hj
    simp at hj
    omega
  · rw [if_neg e]
    exact h.drop i
theorem Own2.set_low' {T : TypeId} {w : World} {B n : Nat} {v : Value} {p q : Nat → Value} (h : Own2 T w B v n p q) {a : Addr} (ha : a.block < B) (y : Value) : Own2 T (w.setCell a y) B v n p q := by
  refine ⟨h.1, ?_⟩
  rcases h.2 with hn | ⟨g, cap, cur, rfl, hg, hh, rest⟩
  · exact .inl hn
  · refine .inr ⟨g, cap, cur, rfl, hg, ?_, rest⟩
    rw [Below.heap_setCell _ _ _ _ (by omega)]; exact hh
theorem OwnP.setCells_low {k1 k2 : IntKind} {T : TypeId} {B : Nat} {v : Value} {L : List (Int × Int)} {g : Nat} (hg : g < B) : ∀ (m : List Value) (j : Nat) (w : World), OwnP k1 k2 T w B v L → OwnP k1 k2 T (w.setCells g j m) B v L
  | [], _, _, h => h
  | x :: m, j, w, h => OwnP.setCells_low hg m (j + 1) _ (Own2.set_low' h (a := ⟨g, j, none⟩) hg x)
def SvRet (L : List (Int × Int)) (at_ x s : Int) (w : World) (e : Ending) (w' : World) : Prop := ∃ v, e = .returned (.tuple #[v, .agg #[.int .i64 at_, .int .u16 x], .int .i64 s, .int .i64 0]) ∧ OwnP .i64 .u8 25 w' w.heap.size v L ∧ Below w.heap.size w w'
set_option maxHeartbeats 4000000 in
theorem Serve_yes (A : Option Addr) (n c : Nat) (M : List (Int × Int)) (hM : M.length = n) (hn : n ≤ 50000) (h0 : 0 < n) (hc : n ≤ c) (B : Option Addr) (m d : Nat) (h : Nat → Int) (w : World) (hp : PlsL w A M) (hr : Row .u16 w B m h) (q : Nat) (hq : nx (fun i => (M.getD i (0, 0)).1) n = q) (k : Nat) (hk : k < m) (hfk : (M.getD q (0, 0)).1 = k) (x : Int) (hx : h k = x) (x0 : 0 ≤ x ∧ x < 65536) (g : Int) (hg : (M.getD q (0, 0)).2 = g) (hg7 : 1 ≤ g ∧ g ≤ 7) (X S : Int) (hXX : pW (x % 32768) g = X) (hSS : pS (x % 32768) g = S) :
    Calls Try.prog 12 #[.slice A n c, .slice B m d] w (SvRet (without M q) k X S w) := by
  have hql : q < n := by rw [← hq]; exact nx_lt _ n h0
  have HN := Lib.hid (fun w (hp : PlsL w A M) => Next_any A n c (fun i => (M.getD i (0, 0)).1) (fun i => (M.getD i (0, 0)).2) (by omega) w (by rw [← hM]; exact hp))
  rw [hq, show decide (0 < n) = true by simp [h0]] at HN
  have HP := Lib.hid hp
  have HR := Lib.hid hr
  have HM := Lib.hid hM
  clear hp hr hq
  obtain ⟨a, rfl, _⟩ := HP.out q (by rw [HM.out]; exact hql)
  obtain ⟨b, rfl, _⟩ := HR.out k hk
  have Z := Lib.hid (Blk.new w 37 [.int .i64 0, .int .u16 0] _ rfl)
  have HF := Lib.hid hfk
  have HX := Lib.hid hx
  have HG := Lib.hid hg
  have HPE := Lib.hid (show pE g = 0 by unfold pE; rw [if_pos hg7])
  have HXX := Lib.hid hXX
  have HSS := Lib.hid hSS
  clear hfk hx hg hM hXX hSS
  go_enter Try.func12, Try.ntmps12
  go_wp2_with (fail)
  refine (HN.out _ (HP.out.below ((Below.refl _ _).alloc (Nat.le_refl _) _) (Nat.le_refl _))).mono ?_
  rintro e w1 ⟨rfl, hb⟩
  have Z1 := Z.out.below hb (by simp)
  have X1 := Lib.hid (((Below.refl w.heap.size w).alloc (Nat.le_refl _) _).trans (hb.mono (by simp)))
  have P1 := HP.out.below X1.out (Nat.le_refl _)
  obtain ⟨d1, d2⟩ := Pls.at_ P1 (i := q) (by rw [HM.out]; exact hql)
  rw [HF.out] at d1
  rw [HG.out] at d2
  have d3 := ((HR.out.below X1.out (Nat.le_refl _)).at_ hk)
  rw [HX.out] at d3
  clear hb Z HN P1
  have Y1 := Lib.hid Z1
  have hz : w.heap.size < w1.heap.size := lt_of_cell (Z1.cell 0 _ rfl)
  have D3 := Lib.hid (((HR.out.below X1.out (Nat.le_refl _)).below ((Below.refl _ _).alloc (Nat.le_refl _) (.cells #[.int .i64 k, .int .u8 g] 25)) (Nat.le_refl _)).at_ hk)
  rw [HX.out] at D3
  clear Z1
  go_wp2_with (fail)
  have d4 := D3.out
  go_region_with (go_at_call 19; refine (Apply_any x g x0.1 x0.2 _).mono ?_; rintro e w2 ⟨rfl, hb2⟩; (have HB2 := Lib.hid hb2); clear hb2)
  all_goals
    rw [HPE.out, HXX.out, HSS.out]
    have hb3 := HB2.out
    replace hb3 := from_drew hb3
    have X2 := Lib.hid ((X1.out.alloc (by omega) (.cells #[.int .i64 k, .int .u8 g] 25)).trans (hb3.mono (by simp; omega)))
    have Y2 := Lib.hid ((Y1.out.alloc hz (.cells #[.int .i64 k, .int .u8 g] 25)).below hb3 (by simp; omega))
    have hz2 : w.heap.size < w2.heap.size ∧ w1.heap.size < w2.heap.size := by have := hb3.size; simp at this; omega
    have PB := Lib.hid ((Blk.new w1 25 [.int .i64 k, .int .u8 g] _ rfl).below hb3 (by simp))
    clear d4 D3 hb3 HB2
    go_wp2_with (fail)
    have Z2 := Y2.out
    have Q2 := PB.out
    have c0 := Z2.cell 0 _ rfl; have c1 := Z2.cell 1 _ rfl; have e0 := Z2.free 0 _ rfl; have e1 := Z2.free 1 _ rfl; have p0 := Q2.cell 0 _ rfl; have p1 := Q2.cell 1 _ rfl
    clear Z2 Q2
    have hqc : q ≤ c := by omega
    have hq1 : q + 1 ≤ n := by omega
    have hq2 : q + 1 ≤ c := by omega
    have ew : IntKind.i64.wrap ((q : Int) + 1) = ((q + 1 : Nat) : Int) := by rw [IntKind.wrap_i64]; omega
    have hq3 : ((q + 1 : Nat) : Int) ≤ n := by omega
    have hq5 : (0 : Int) ≤ (q : Int) + 1 := by omega
    have hq6 : (q : Int) + 1 ≤ n := by omega
    have hq4 : (0 : Int) ≤ ((q + 1 : Nat) : Int) := by omega
    have BB := Lib.hid (X2.out.alloc X2.out.size (.cells #[.slice (some a) q c, .slice (if c = q + 1 then some a else some (a.add ((q + 1) * 2))) (n - (q + 1)) (c - (q + 1))] 22))
    have SB := Lib.hid (Blk.new w2 22 [.slice (some a) q c, .slice (if c = q + 1 then some a else some (a.add ((q + 1) * 2))) (n - (q + 1)) (c - (q + 1))] _ rfl)
    have PT := Lib.hid ((HP.out.below BB.out (Nat.le_refl _)).take q)
    have PD := Lib.hid (dropQ (HP.out.below BB.out (Nat.le_refl _)) (q + 1) c (by rw [HM.out]; omega))
    have L1 := Lib.hid (show (M.take q).length = q by rw [List.length_take, HM.out]; omega)
    have L2 := Lib.hid (show (M.drop (q + 1)).length = n - (q + 1) by rw [List.length_drop, HM.out])
    have CC := Lib.hid (fun W p1 p2 d1 d2 => Concat_two w2.heap.size (some a) (if c = q + 1 then some a else some (a.add ((q + 1) * 2))) q (n - (q + 1)) c (c - (q + 1)) (M.take q) (M.drop (q + 1)) L1.out L2.out (fun h => by cases h) (fun h => by split at h <;> cases h) (by omega) W p1 p2 d1 d2 2)
    go_region_law ((try go_simp); go_at_call 18; refine (CC.out _ ?_ ?_ ?_ ?_).mono ?_; exact PT.out; exact PD.out; exact SB.out.cell 0 _ rfl; exact SB.out.cell 1 _ rfl; rintro e w3 ⟨v, rfl, ho, hb⟩; (have hb' : Below (w2.alloc (.cells #[.slice (some a) q c, .slice (if c = q + 1 then some a else some (a.add ((q + 1) * 2))) (n - (q + 1)) (c - (q + 1))] 22)).heap.size (w2.alloc (.cells #[.slice (some a) q c, .slice (if c = q + 1 then some a else some (a.add ((q + 1) * 2))) (n - (q + 1)) (c - (q + 1))] 22)) w3 := by first | exact from_drew hb | exact from_drewN hb | exact hb); (have HB3 := Lib.hid (((Below.refl w2.heap.size w2).alloc (Nat.le_refl _) (.cells #[.slice (some a) q c, .slice (if c = q + 1 then some a else some (a.add ((q + 1) * 2))) (n - (q + 1)) (c - (q + 1))] 22)).trans (hb'.mono (by simp)))); clear hb'; (have HO3 := Lib.hid ho); (obtain ⟨A3, n3, c3, rfl⟩ := ho.shape); clear ho hb; (have Z3 := Y2.out.below HB3.out (by omega)); (have Q3 := PB.out.below HB3.out (by omega)); have x0 := Z3.cell 0 _ rfl; have x1 := Z3.cell 1 _ rfl; have y0 := Z3.free 0 _ rfl; have y1 := Z3.free 1 _ rfl; have z0 := Q3.cell 0 _ rfl; have z1 := Q3.cell 1 _ rfl; clear Z3 Q3)
    all_goals
      clear c0 c1 e0 e1 p0 p1 x1 y0 y1 z0 z1
      have B3 := Y2.out.below HB3.out (by omega)
      have X3 := X2.out.trans (HB3.out.mono (by omega))
      have O3 := HO3.out.low (B' := w.heap.size + 1) (by simp; omega)
      go_wp2_with (fail)
      all_goals
        change bodyPost _ _ _ _ _ (w3.setCells w.heap.size 0 [.int .i64 k, .int .u16 X])
        exact ret_serve Try.results12 Try.underlying37 [.int .i64 k, .int .u16 X] (by kernel_rfl) w.heap.size (.slice A3 n3 c3) (.int .i64 S) (.int .i64 0)
          ⟨_, rfl, (OwnP.setCells_low (Nat.lt_succ_self _) _ 0 _ O3).low (Nat.le_succ _), below_setCells w.heap.size (Nat.le_refl _) _ 0 _ X3⟩ (B3.overS _ rfl) rfl rfl rfl rfl rfl
end Go.Proofs.Yteongalbljdjlaa
