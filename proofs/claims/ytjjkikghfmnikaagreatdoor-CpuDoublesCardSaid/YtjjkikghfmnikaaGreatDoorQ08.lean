/- Contracts of layer 4: the reference's Of. -/
import Derived.Test.YtjjkikghfmnikaaGreatDoorQ07
import Derived.Deep.RegionLaw
import Derived.Deep.RegionWith
import Derived.Test.YtjjkikghfmnikaaGreatDoorQ03
set_option linter.unusedSimpArgs false
set_option linter.unusedVariables false
namespace Go.Proofs.YtjjkikghfmnikaaGreatDoor
open Go.ChangeShapes Go.WideShapes Go.ChangeAt Go.RowKit
theorem rbits_any (k : Int) (w : World) : Calls Tryz.prog 145 #[.int .u8 k] w fun e w' => e = .returned (.int .i64 (bt k)) ∧ w = w' := by
  by_cases h1 : k = 1
  · subst h1
    go_enter Tryz.func145, Tryz.ntmps145
    go_wp2
    go_ret
    exact ⟨rfl, rfl⟩
  by_cases h2 : k = 2
  · subst h2
    go_enter Tryz.func145, Tryz.ntmps145
    go_wp2
    go_ret
    exact ⟨rfl, rfl⟩
  by_cases h3 : k = 3
  · subst h3
    go_enter Tryz.func145, Tryz.ntmps145
    go_wp2
    go_ret
    exact ⟨rfl, rfl⟩
  by_cases h4 : k = 4
  · subst h4
    go_enter Tryz.func145, Tryz.ntmps145
    go_wp2
    go_ret
    exact ⟨rfl, rfl⟩
  have e : 0 = bt k := by unfold bt; rw [if_neg h1, if_neg h2, if_neg h3, if_neg h4]
  have E := Lib.hid e
  have t1 : (k == 1) = false := by rw [beq_eq_false_iff_ne]; exact h1
  have t2 : (k == 2) = false := by rw [beq_eq_false_iff_ne]; exact h2
  have t3 : (k == 3) = false := by rw [beq_eq_false_iff_ne]; exact h3
  have t4 : (k == 4) = false := by rw [beq_eq_false_iff_ne]; exact h4
  clear e h1 h2 h3 h4
  go_enter Tryz.func145, Tryz.ntmps145
  go_wp2
  go_ret
  exact ⟨ret_int E.out, rfl⟩
theorem dec19 (i : Nat) : decide (19 ≤ i) = decide ((19 : Int) ≤ (i : Int)) := by
  by_cases h : 19 ≤ i
  · rw [decide_eq_true h, decide_eq_true (by omega)]
  · rw [decide_eq_false h, decide_eq_false (by omega)]
theorem old6 (j : Nat) (hj : j < 6) (v0 v1 v2 v3 v4 v5 : Value) : (#[v0, v1, v2, v3, v4, v5][j]?).isSome = true := by simp [hj]
set_option maxHeartbeats 4000000 in
theorem rOf_yes (c : Int) (i : Nat) (hi : i < 39) (hc : c - 1 = i) (w : World) :
    Calls Tryz.prog 85 #[.int .u8 c] w fun e w' => e = .returned (.tuple #[.agg #[.int .u8 c, .string (nm i), .bool (decide (19 ≤ i)), .int .u8 (kd i), .int .i64 (bt (kd i)), .int .i64 (cy i)], .int .i64 0]) ∧ Below w.heap.size w w' := by
  have k0 := kd_bd i hi
  have hc2 : 1 ≤ c ∧ c ≤ 39 := by omega
  go_enter Tryz.func85, Tryz.ntmps85
  go_wp2_with (go_at_call 143; refine (rkinds_any _).mono ?_; rintro e w1 ⟨g1, c1, rfl, hg1, hg2, hcell1, hb1⟩; (obtain ⟨hk1, hk2⟩ := bcell hb1); (have cell1 := hcell1 i hi); (have hz1 : w.heap.size < w1.heap.size := by have := hb1.size; simp at this; omega); (have Y1 := Lib.hid hb1); (have X1 := Lib.hid (((Below.refl w.heap.size w).alloc (Nat.le_refl _) _).trans (hb1.mono (by simp)))); clear hcell1 hb1)
  go_region_with (first
    | (go_at_call 144; refine (rNames_any _).mono ?_; rintro e w2 ⟨g2, c2, rfl, hg3, hg4, hcell2, hb2⟩; (replace hb2 := from_drew hb2); (obtain ⟨hn1, hn2⟩ := bcell hb2); (have cell2 := hcell2 i hi); (have hz2 := hb2.size); (have hz3 : w.heap.size < w2.heap.size := by omega); (have Y2 := Lib.hid (Y1.out.trans (hb2.mono Y1.out.size))); (have X2 := Lib.hid (X1.out.trans (hb2.mono X1.out.size))); clear hcell2 hb2)
    | (go_at_call 145; refine (rbits_any _ _).mono ?_; rintro e w1 ⟨rfl, rfl⟩)
    | (go_at_call 146; refine (rcycles_any _).mono ?_; rintro e w3 ⟨g3, c3, rfl, hg5, hg6, hcell3, hb3⟩; (obtain ⟨hm1, hm2⟩ := bcell hb3); (have cell3 := hcell3 i hi); (have hz4 := hb3.size); (have hz5 : w.heap.size < w3.heap.size := by omega); (have Y3 := Lib.hid (Y2.out.trans (hb3.mono Y2.out.size))); (have X3 := Lib.hid (X2.out.trans (hb3.mono X2.out.size))); clear hcell3 hb3))
  all_goals
    go_wp2
    refine ret_struct2 Tryz.results85 Tryz.underlying41 [.int .u8 c, .string (nm i), .bool (decide (19 ≤ i)), .int .u8 (kd i), .int .i64 (bt (kd i)), .int .i64 (cy i)] (by kernel_rfl) w.heap.size rfl ?_ (.int .i64 0) rfl rfl ⟨rfl, ((((((X3.out.setCell (p := ⟨w.heap.size, 0, none⟩) (Nat.le_refl _) _).setCell (p := ⟨w.heap.size, 1, none⟩) (Nat.le_refl _) _).setCell (p := ⟨w.heap.size, 2, none⟩) (Nat.le_refl _) _).setCell (p := ⟨w.heap.size, 3, none⟩) (Nat.le_refl _) _).setCell (p := ⟨w.heap.size, 4, none⟩) (Nat.le_refl _) _).setCell (p := ⟨w.heap.size, 5, none⟩) (Nat.le_refl _) _)⟩
    rw [dec19 i]
    exact set6 (fun j hj => by rw [Y3.out.cell (p := ⟨w.heap.size, j, none⟩) (by simp), World.cell?_alloc_at _ _ _ _ rfl]; exact old6 j hj _ _ _ _ _ _) _ _ _ _ _ _
end Go.Proofs.YtjjkikghfmnikaaGreatDoor
