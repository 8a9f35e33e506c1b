/- Contracts of layer 4: the program's tables. -/
import Derived.Test.YtjkdojdkmgaofaaDoorChecked
import Derived.Test.YtjkdojdkmgaofaaDoorV04
import Derived.Test.YtjkdojdkmgaofaaDoorL04e
import Derived.Deep.RegionLaw
import Derived.Deep.RegionWith
set_option linter.unusedSimpArgs false
set_option linter.unusedVariables false
namespace Go.Proofs.YtjkdojdkmgaofaaDoor
open Go.ChangeShapes Go.WideShapes Go.ChangeAt Go.RowKit
theorem results_cell {fn : Func} {p : Tmp} {ty : TypeId} (h : fn.results = #[.cell p ty]) (tmps : Array Value) (P : Program) (w : World) :
    (results fn tmps).run P w = ((asAddr (tmps.getD p undef)).run P w).andThen fun a w₁ => (loadVar ty a).run P w₁ := by
  simp only [results, h]
  simp [Sem.run_bind, Result.andThen]
theorem ret_struct1 {P : Program} {fn : Func} {R : Ending → World → Prop} {a : Act} {w : World} {p : Tmp} {T : TypeId} {fs : Array Field} (hres : fn.results = #[.cell p T]) (ht : P.underlying T = some (.struct fs)) (cs : List Value) (hi : (P.info? T).map (·.size) = some cs.length) (g : Nat)
    (hp : a.tmps.getD p undef = .pointer (some ⟨g, 0, none⟩)) (hc : ∀ j v, cs[j]? = some v → w.cell? ⟨g, j, none⟩ = some v) (hd : a.defers = []) (hR : R (.returned (.agg cs.toArray)) w) : bodyPost P fn R .ret a w := by
  refine bodyPost_ret ?_ hd hR
  rw [results_cell hres, hp]
  simp [asAddr, Sem.run_bind, Result.andThen, run_loadVar_struct ht cs hi w g hc]
theorem formOf_any (c : Int) (i : Nat) (hi : i < 39) (hc : c - 1 = i) (w : World) (hL : Lay w) :
    Calls Tryd.prog 34 #[.int .u8 c] w fun e w' => e = .returned (.agg #[.string (nm i), .bool (decide (19 ≤ i)), .int .u8 (kd i), .int .i64 (bs i), .int .i64 (cy i)]) ∧ Below w.heap.size w w' := by
  obtain ⟨f0, f1, f2, f3, f4⟩ := hL.f i hi
  have hsf := hL.sf
  have ei : IntKind.u8.wrap (c - 1) = (i : Int) := by rw [← hc]; exact IntWalk.u8_in _ (by omega)
  clear hL
  go_enter Tryd.func34, Tryd.ntmps34
  go_wp2
  exact ret_struct1 Tryd.results34 Tryd.underlying56 [.string (nm i), .bool (decide (19 ≤ i)), .int .u8 (kd i), .int .i64 (bs i), .int .i64 (cy i)] (by kernel_rfl) w.heap.size rfl (at_alloc [.string (nm i), .bool (decide (19 ≤ i)), .int .u8 (kd i), .int .i64 (bs i), .int .i64 (cy i)]) rfl ⟨rfl, (Below.refl _ _).alloc (Nat.le_refl _) _⟩
theorem exists_any (c : Int) (h0 : 0 ≤ c) (h1 : c ≤ 255) (t : Bool) (ht : (c != 0 && decide (c ≤ 39)) = t) (w : World) :
    Calls Tryd.prog 28 #[.int .u8 c] w fun e w' => e = .returned (.bool t) ∧ w = w' := by
  have HT := Lib.hid ht
  clear ht
  go_enter Tryd.func28, Tryd.ntmps28
  go_wp2
  all_goals
    go_ret
    exact ⟨by rw [← HT.out]; first | rfl | simp [*], rfl⟩
theorem exists_yes (c : Int) (h0 : 1 ≤ c) (h1 : c ≤ 39) (w : World) :
    Calls Tryd.prog 28 #[.int .u8 c] w fun e w' => e = .returned (.bool true) ∧ w = w' :=
  exists_any c (by omega) (by omega) true (by rw [Bool.and_eq_true, bne_iff_ne, decide_eq_true_iff]; omega) w
theorem exists_no (c : Int) (h0 : 0 ≤ c) (h1 : c ≤ 255) (h : ¬ (1 ≤ c ∧ c ≤ 39)) (w : World) :
    Calls Tryd.prog 28 #[.int .u8 c] w fun e w' => e = .returned (.bool false) ∧ w = w' :=
  exists_any c h0 h1 false (by by_cases d : c = 0; (simp [d]); (rw [decide_eq_false (show ¬ c ≤ 39 by omega), Bool.and_false])) w
theorem reserved_any (c : Int) (i : Nat) (hi : i < 39) (hc : c - 1 = i) (k : Int) (t : Bool) (ht : decide (rsv i k) = t) (w : World) :
    Calls Tryd.prog 37 #[.int .u8 c, .int .i64 k] w fun e w' => e = .returned (.bool t) ∧ w = w' := by
  by_cases d : c = 1
  · subst d
    have e0 : i = 0 := by omega
    subst e0
    have HT := Lib.hid (show ((k == 3) || (k == 4) || (k == 6)) = t by rw [← ht]; unfold rsv; by_cases a : k = 3 <;> by_cases b : k = 4 <;> by_cases c : k = 6 <;> simp [a, b, c])
    clear ht
    go_enter Tryd.func37, Tryd.ntmps37
    go_wp2
    all_goals
      go_ret
      exact ⟨by rw [← HT.out]; first | rfl | simp [*], rfl⟩
  by_cases d2 : c = 13
  · subst d2
    have e0 : i = 12 := by omega
    subst e0
    have HT := Lib.hid (show (k == 15) = t by rw [← ht]; unfold rsv; by_cases a : k = 15 <;> simp [a])
    clear ht
    go_enter Tryd.func37, Tryd.ntmps37
    go_wp2
    all_goals
      go_ret
      exact ⟨by rw [← HT.out]; first | rfl | simp [*], rfl⟩
  have HT := Lib.hid (show false = t by rw [← ht, decide_eq_false (show ¬ rsv i k by unfold rsv; omega)])
  clear ht
  go_enter Tryd.func37, Tryd.ntmps37
  go_wp2
  all_goals
    go_ret
    exact ⟨by rw [← HT.out]; first | rfl | simp [*], rfl⟩
theorem size6 {w : World} {g : Nat} (v0 v1 v2 v3 v4 v5 : Value) : ((((((w.setCell ⟨g, 0, none⟩ v0).setCell ⟨g, 1, none⟩ v1).setCell ⟨g, 2, none⟩ v2).setCell ⟨g, 3, none⟩ v3).setCell ⟨g, 4, none⟩ v4).setCell ⟨g, 5, none⟩ v5).heap.size = w.heap.size := by simp
theorem below6a {w w3 : World} {g : Nat} (h : Below w.heap.size w w3) (hg : w.heap.size ≤ g) (v0 v1 v2 v3 v4 v5 : Value) (o : Obj) : Below w.heap.size w ((((((((w3.setCell ⟨g, 0, none⟩ v0).setCell ⟨g, 1, none⟩ v1).setCell ⟨g, 2, none⟩ v2).setCell ⟨g, 3, none⟩ v3).setCell ⟨g, 4, none⟩ v4).setCell ⟨g, 5, none⟩ v5).alloc o).drew) :=
  ((below6 h hg v0 v1 v2 v3 v4 v5).alloc (by rw [size6]; exact h.size) o).drew
theorem set6ad {w : World} {g : Nat} (h : ∀ j, j < 6 → (w.cell? ⟨g, j, none⟩).isSome = true) (hg : g < w.heap.size) (v0 v1 v2 v3 v4 v5 : Value) (o : Obj) :
    ∀ j v, [v0, v1, v2, v3, v4, v5][j]? = some v → (((((((w.setCell ⟨g, 0, none⟩ v0).setCell ⟨g, 1, none⟩ v1).setCell ⟨g, 2, none⟩ v2).setCell ⟨g, 3, none⟩ v3).setCell ⟨g, 4, none⟩ v4).setCell ⟨g, 5, none⟩ v5).alloc o).drew.cell? ⟨g, j, none⟩ = some v := by
  intro j v hj
  rw [cell_drew, ((Below.refl _ _).alloc (Nat.le_refl _) o).cell (p := ⟨g, j, none⟩) (by rw [size6]; exact hg)]
  exact set6 h v0 v1 v2 v3 v4 v5 j v hj
set_option maxHeartbeats 1000000 in
theorem opOf_any (c : Int) (i : Nat) (hi : i < 39) (hc : c - 1 = i) (w : World) (hL : Lay w) :
    Calls Tryd.prog 29 #[.int .u8 c] w fun e w' => e = .returned (.agg #[.int .u8 c, .string (nm i), .bool (decide (19 ≤ i)), .int .u8 (kd i), .int .i64 (bt (kd i)), .int .i64 (cy i)]) ∧ Below w.heap.size w w' := by
  have hk := kd_bd i hi
  have HL := Lib.hid hL
  clear hL
  go_enter Tryd.func29, Tryd.ntmps29
  go_wp2_with (go_at_call 34; refine (formOf_any c i hi hc _ (HL.out.alloc _)).mono ?_; rintro e w1 ⟨rfl, hb⟩; (obtain ⟨hk0, hk1, hk2⟩ := ((HL.out.alloc _).below hb).k (kd i) hk.1 (by omega)); (have hs1 := ((HL.out.alloc _).below hb).sk); (have hz1 : w.heap.size < w1.heap.size := by have := hb.size; simp at this; omega); (have R2 := (Six.alloc w 28 _ _ _ _ _ _).below hb (by simp)); (obtain ⟨⟨r0, hr0⟩, hf0⟩ := R2 0 (by omega)); (obtain ⟨⟨r1, hr1⟩, hf1⟩ := R2 1 (by omega)); (obtain ⟨⟨r2, hr2⟩, hf2⟩ := R2 2 (by omega)); (obtain ⟨⟨r3, hr3⟩, hf3⟩ := R2 3 (by omega)); (obtain ⟨⟨r4, hr4⟩, hf4⟩ := R2 4 (by omega)); (obtain ⟨⟨r5, hr5⟩, hf5⟩ := R2 5 (by omega)); (have R2s := Lib.hid R2); (have X1 := Lib.hid (((Below.refl w.heap.size w).alloc (Nat.le_refl _) _).trans (hb.mono (by simp)))); clear R2 hb)
  have hk5 : kd i < 5 := by omega
  go_region
  rename_i K hK
  refine hK _ _ (wp_ret ?_)
  clear hK
  have HC6 := set6ad (w := w1) (g := w.heap.size) R2s.out.some hz1 (.int .u8 c) (.string (nm i)) (.bool (decide (19 ≤ i))) (.int .u8 (kd i)) (.int .i64 (bt (kd i))) (.int .i64 (cy i)) (.cells #[.string (nm i), .bool (decide (19 ≤ i)), .int .u8 (kd i), .int .i64 (bs i), .int .i64 (cy i)] 56)
  have HB6 := below6a (g := w.heap.size) X1.out (Nat.le_refl _) (.int .u8 c) (.string (nm i)) (.bool (decide (19 ≤ i))) (.int .u8 (kd i)) (.int .i64 (bt (kd i))) (.int .i64 (cy i)) (.cells #[.string (nm i), .bool (decide (19 ≤ i)), .int .u8 (kd i), .int .i64 (bs i), .int .i64 (cy i)] 56)
  show bodyPost _ _ _ .ret _ _
  exact ret_struct1 Tryd.results29 Tryd.underlying28 [.int .u8 c, .string (nm i), .bool (decide (19 ≤ i)), .int .u8 (kd i), .int .i64 (bt (kd i)), .int .i64 (cy i)] (by kernel_rfl) w.heap.size rfl HC6 rfl ⟨rfl, HB6⟩
set_option maxHeartbeats 1000000 in
theorem encodes_any (c : Int) (i : Nat) (h39 : i < 39) (hc : c - 1 = i) (k : Int) (t : Bool) (ht : decide (encOk i k) = t) (w : World) (hL : Lay w) :
    Calls Tryd.prog 33 #[.int .u8 c, .int .i64 k] w fun e w' => e = .returned (.bool t) ∧ Below w.heap.size w w' := by
  have hk := kd_bd i h39
  have HL := Lib.hid hL
  clear hL
  obtain ⟨r, hr⟩ : ∃ r, decide (rsv i k) = r := ⟨_, rfl⟩
  have HR := Lib.hid hr
  have HT := Lib.hid (show (decide (lo (kd i) ≤ k) && decide (k ≤ hi (kd i)) && !r) = t by
    rw [← ht, ← hr]; unfold encOk
    by_cases a : lo (kd i) ≤ k <;> by_cases b : k ≤ hi (kd i) <;> by_cases c : rsv i k <;> simp [a, b, c])
  clear ht hr
  have hk5 : kd i < 5 := by omega
  have fd : ∀ w : World, (Instr.field 56 (.agg #[.string (nm i), .bool (decide (19 ≤ i)), .int .u8 (kd i), .int .i64 (bs i), .int .i64 (cy i)]) 2).run Tryd.prog w = .ok (.int .u8 (kd i)) w := fun _ => by kernel_rfl
  go_enter Tryd.func33, Tryd.ntmps33
  go_wp2_with (first
    | (go_at_call 34; refine (formOf_any c i h39 hc _ HL.out).mono ?_; rintro e w1 ⟨rfl, hb⟩; (obtain ⟨hk0, hk1, hk2⟩ := (HL.out.below hb).k (kd i) hk.1 (by omega)); (have hs1 := (HL.out.below hb).sk); (have X1 := Lib.hid hb); clear hb)
    | (go_at_call 37; refine (reserved_any c i h39 hc k r HR.out _).mono ?_; rintro e w2 ⟨rfl, rfl⟩))
  all_goals
    go_ret
    exact ⟨by rw [← HT.out]; first | rfl | (simp [*]; done) | (simp [*]; intros; exfalso; omega), X1.out.alloc X1.out.size _⟩
end Go.Proofs.YtjkdojdkmgaofaaDoor
