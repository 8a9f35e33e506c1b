/- Layer 6: the statements' own small functions. -/
import Derived.Test.YteongalbljdjlaaM06c
import Derived.Test.YteongalbljdjlaaPls
set_option linter.unusedSimpArgs false
set_option linter.unusedVariables false
set_option maxRecDepth 100000
namespace Go.Proofs.Yteongalbljdjlaa
open Go.ChangeShapes Go.WideShapes Go.ChangeAt Go.RowKit
set_option maxHeartbeats 1000000 in
theorem gives_yes (x k y s : Int) (x0 : 0 ≤ x) (x1 : x < 65536) (hy : pW (x % 32768) k = y) (hs : pS (x % 32768) k = s) (hk : 1 ≤ k ∧ k ≤ 7) (w : World) :
    Calls Try.prog 22 #[.int .u16 x, .int .u8 k, .int .u16 y, .int .i64 s] w fun e w' => e = .returned (.bool true) ∧ Below w.heap.size w w' := by
  have HA := Lib.hid (Apply_any x k x0 x1 w)
  rw [hy, hs, show pE k = 0 by unfold pE; rw [if_pos hk]] at HA
  clear hy hs hk
  go_enter Try.func22, Try.ntmps22
  go_wp2_with (go_at_call 19; refine HA.out.mono ?_; rintro e w1 ⟨rfl, hb⟩; (have HB := Lib.hid hb); clear hb)
  go_ret
  exact ⟨rfl, HB.out⟩
set_option maxHeartbeats 1000000 in
theorem causes_yes (a k s i : Int) (hL : aL a s = []) (hi : aI a k s = i) (w : World) :
    Calls Try.prog 23 #[.int .i64 a, .int .u8 k, .int .i64 s, .int .i64 i] w fun e w' => e = .returned (.bool true) ∧ Below w.heap.size w w' := by
  have HA := Lib.hid (After_any a k s w)
  rw [hL, hi] at HA
  clear hL hi
  go_enter Try.func23, Try.ntmps23
  go_wp2_with (go_at_call 21; refine HA.out.mono ?_; rintro e w1 ⟨vl, rfl, ho, hb⟩; (have HB := Lib.hid hb); (obtain ⟨A, c, rfl, _⟩ := ho.prs); clear hb ho)
  go_ret
  exact ⟨rfl, HB.out⟩
def Aft21 (w : World) (e : Ending) (w' : World) : Prop := ∃ g c, e = .returned (.tuple #[.slice (some ⟨g, 0, none⟩) 1 c, .int .i64 0]) ∧ w'.cell? ⟨g, 0, none⟩ = some (.int .i64 20) ∧ w'.cell? ⟨g, 1, none⟩ = some (.int .u8 1) ∧ Below w.heap.size w w'
theorem After_21 (w : World) : Calls Try.prog 21 #[.int .i64 21, .int .u8 1, .int .i64 1] w (Aft21 w) := by
  refine (After_any 21 1 1 w).mono ?_
  rintro e w3 ⟨vl, rfl, ho, hb3⟩
  rw [show aL 21 1 = [(20, 1)] from rfl] at ho
  obtain ⟨A, c, rfl, hp⟩ := ho.prs
  obtain ⟨g, rfl, d1, d2⟩ := hp 0 (by simp)
  simp at d1 d2
  exact ⟨g, c, rfl, d1, d2, hb3⟩
set_option maxHeartbeats 4000000 in
theorem works_any (w : World) : Calls Try.prog 14 #[] w fun e w' => e = .returned (.bool true) ∧ Below w.heap.size w w' := by
  have HA := Lib.hid (Apply_any 3 8 (by omega) (by omega) w)
  rw [show pE 8 = 2 by decide] at HA
  go_enter Try.func14, Try.ntmps14
  go_wp2_with (first
    | (go_at_call 19; refine HA.out.mono ?_; rintro e w1 ⟨rfl, hb⟩; (have HB := Lib.hid hb); clear hb)
    | fail)
  refine (Next_any _ 4 4 (fun i => if i = 0 then 31 else if i = 1 then 26 else if i = 2 then 31 else 26) (fun _ => 0) (by omega) _ ?_).mono ?_
  · have hz : ∀ j v, [Value.int .i64 31, .int .u8 0, .int .i64 26, .int .u8 0, .int .i64 31, .int .u8 0, .int .i64 26, .int .u8 0][j]? = some v → (w1.alloc (.cells #[.int .i64 31, .int .u8 0, .int .i64 26, .int .u8 0, .int .i64 31, .int .u8 0, .int .i64 26, .int .u8 0] 25)).cell? ⟨w1.heap.size, j, none⟩ = some v :=
      (Blk.new w1 25 [.int .i64 31, .int .u8 0, .int .i64 26, .int .u8 0, .int .i64 31, .int .u8 0, .int .i64 26, .int .u8 0] _ rfl).cells
    intro i hi
    have h : i = 0 ∨ i = 1 ∨ i = 2 ∨ i = 3 := by omega
    rcases h with rfl | rfl | rfl | rfl
    · exact ⟨_, rfl, hz 0 _ rfl, hz 1 _ rfl⟩
    · exact ⟨_, rfl, hz 2 _ rfl, hz 3 _ rfl⟩
    · exact ⟨_, rfl, hz 4 _ rfl, hz 5 _ rfl⟩
    · exact ⟨_, rfl, hz 6 _ rfl, hz 7 _ rfl⟩
  rw [show nx (fun i => if i = 0 then 31 else if i = 1 then 26 else if i = 2 then 31 else 26) 4 = 1 by decide]
  rintro e w2 ⟨rfl, hb2⟩
  have X2 := Lib.hid ((HB.out.alloc HB.out.size _).trans (hb2.mono (by have := HB.out.size; simp; omega)))
  clear hb2
  go_wp2_with (go_at_call 21; refine (After_21 _).mono ?_; rintro e w3 ⟨g, c, rfl, d1, d2, hb3⟩; (have X3 := Lib.hid (X2.out.trans (hb3.mono X2.out.size))); clear hb3)
  clear d1 d2
  refine (gives_yes 16383 1 0 (1) (by omega) (by omega) (by decide) (by decide) (by omega) _).mono ?_
  rintro e w4 ⟨rfl, hb⟩
  have X4 := Lib.hid (X3.out.trans (hb.mono X3.out.size))
  clear hb
  go_wp2_with (fail)
  refine (gives_yes 16384 2 32767 (-1) (by omega) (by omega) (by decide) (by decide) (by omega) _).mono ?_
  rintro e w5 ⟨rfl, hb⟩
  have X5 := Lib.hid (X4.out.trans (hb.mono X4.out.size))
  clear hb
  go_wp2_with (fail)
  refine (gives_yes 32766 5 32767 (-1) (by omega) (by omega) (by decide) (by decide) (by omega) _).mono ?_
  rintro e w6 ⟨rfl, hb⟩
  have X6 := Lib.hid (X5.out.trans (hb.mono X5.out.size))
  clear hb
  go_wp2_with (fail)
  refine (gives_yes 20000 6 7232 (1) (by omega) (by omega) (by decide) (by decide) (by omega) _).mono ?_
  rintro e w7 ⟨rfl, hb⟩
  have X7 := Lib.hid (X6.out.trans (hb.mono X6.out.size))
  clear hb
  go_wp2_with (fail)
  refine (gives_yes 3 7 7 (0) (by omega) (by omega) (by decide) (by decide) (by omega) _).mono ?_
  rintro e w8 ⟨rfl, hb⟩
  have X8 := Lib.hid (X7.out.trans (hb.mono X7.out.size))
  clear hb
  go_wp2_with (fail)
  refine (causes_yes 25 5 0 1 (by decide) (by decide) _).mono ?_
  rintro e w9 ⟨rfl, hb⟩
  have X9 := Lib.hid (X8.out.trans (hb.mono X8.out.size))
  clear hb
  go_wp2_with (fail)
  go_ret
  exact ⟨rfl, X9.out⟩
end Go.Proofs.Yteongalbljdjlaa
