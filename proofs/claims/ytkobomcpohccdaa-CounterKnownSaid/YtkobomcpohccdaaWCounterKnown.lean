/- The walk of CounterKnown. -/
import Derived.Test.YtkobomcpohccdaaM06d
set_option linter.unusedSimpArgs false
set_option linter.unusedVariables false
set_option maxRecDepth 100000
namespace Go.Proofs.Ytkobomcpohccdaa
open Go.ChangeShapes Go.WideShapes Go.ChangeAt Go.RowKit
theorem info_word6 : (Try.prog.info? 23).map (fun i => (i.zero, i.size, i.bytes)) = some (some (.int .u16 0), 1, 2) := by kernel_rfl
theorem nx_one (p : Int) : nx (fun _ => p) 1 = 0 := by unfold nx; split <;> rfl
theorem pls_one {w : World} {g : Nat} {p k : Int} (h0 : w.cell? ⟨g, 0, none⟩ = some (.int .i64 p)) (h1 : w.cell? ⟨g, 1, none⟩ = some (.int .u8 k)) : Pls w (some ⟨g, 0, none⟩) 1 (fun _ => p) (fun _ => k) := by
  intro i hi
  obtain rfl : i = 0 := by omega
  exact ⟨_, rfl, h0, h1⟩
theorem Serve_one9 (p k : Int) (g : Nat) (B : Option Addr) (m d c : Nat) (w : World) (h0 : w.cell? ⟨g, 0, none⟩ = some (.int .i64 p)) (h1 : w.cell? ⟨g, 1, none⟩ = some (.int .u8 k)) (hs : p < 0 ∨ (m : Int) ≤ p) :
    Calls Try.prog 23 #[.slice (some ⟨g, 0, none⟩) 1 c, .slice B m d] w (SvErr 9 w) :=
  Serve_short _ 1 c _ _ (by omega) (by omega) B m d w (pls_one h0 h1) hs
theorem Serve_one2 (p : Nat) (k : Int) (g : Nat) (B : Option Addr) (m d c : Nat) (h : Nat → Int) (hh : 0 ≤ h p ∧ h p < 65536) (w : World) (h0 : w.cell? ⟨g, 0, none⟩ = some (.int .i64 p)) (h1 : w.cell? ⟨g, 1, none⟩ = some (.int .u8 k)) (hr : Row .u16 w B m h) (hp : p < m) (hk : ¬ (1 ≤ k ∧ k ≤ 7)) :
    Calls Try.prog 23 #[.slice (some ⟨g, 0, none⟩) 1 c, .slice B m d] w (SvErr 2 w) :=
  Serve_bad _ 1 c _ _ (by omega) (by omega) B m d h w (pls_one h0 h1) hr p hp rfl _ rfl hh (by simpa using hk)
set_option maxHeartbeats 4000000 in
theorem counterKnown_walk (w : World) :
    Calls Try.prog 10 #[] w fun e w' => e = .returned (.bool true) ∧ Below w.heap.size w w' := by
  have HN := Lib.hid (fun w => Next_any none 0 0 (fun _ => 0) (fun _ => 0) (by omega) w (fun i hi => by omega))
  go_enter Try.func10, Try.ntmps10
  go_wp2_with (first
    | (go_at_call 19; refine (HN.out _).mono ?_; rintro e p1 ⟨rfl, hb1⟩; (have X1 := Lib.hid hb1); clear hb1)
    | (at_make; refine make_full _ _ rfl _ _ 37 rfl .u16 23 2 Try.underlying37 info_word6 _ 20 rfl rfl (by decide) (by decide) (Below.refl _ _) (Nat.le_refl _) ?_; intro q1 hown hb hlt; (have O1 := Lib.hid hown); (have B1 := Lib.hid hb); clear hown hb hlt)
    | fail)
  have C1 := (Blk.new p1 26 [.int .i64 20, .int .u8 1] _ rfl).below B1.out (by simp)
  have Y1 := Lib.hid ((X1.out.alloc X1.out.size (.cells #[.int .i64 20, .int .u8 1] 26)).trans (B1.out.mono (by have := X1.out.size; simp; omega)))
  refine (Serve_one9 20 1 p1.heap.size _ _ _ _ _ (C1.cell 0 _ rfl) (C1.cell 1 _ rfl) (by omega)).mono ?_
  rintro e p2 ⟨rfl, hb⟩
  have X2 := Lib.hid ((Y1.out.trans (hb.mono Y1.out.size)).alloc (Y1.out.trans (hb.mono Y1.out.size)).size (.cells #[.int .i64 0, .int .u16 0] 44))
  clear hb C1 O1 B1
  go_wp2_with (first
    | (at_make; refine make_full _ _ rfl _ _ 37 rfl .u16 23 2 Try.underlying37 info_word6 _ 20 rfl rfl (by decide) (by decide) (Below.refl _ _) (Nat.le_refl _) ?_; intro q2 hown hb hlt; (have O2 := Lib.hid hown); (have B2 := Lib.hid hb); clear hown hb hlt)
    | fail)
  have C2 := (Blk.new (p2.alloc (.cells #[.int .i64 0, .int .u16 0] 44)) 26 [.int .i64 (-1), .int .u8 1] (p2.heap.size + 1) (by simp)).below B2.out (by simp)
  have Y2 := Lib.hid ((X2.out.alloc X2.out.size (.cells #[.int .i64 (-1), .int .u8 1] 26)).trans (B2.out.mono (by have := X2.out.size; simp at this ⊢; omega)))
  refine (Serve_one9 (-1) 1 (p2.heap.size + 1) _ _ _ _ _ (C2.cell 0 _ rfl) (C2.cell 1 _ rfl) (by omega)).mono ?_
  rintro e p3 ⟨rfl, hb⟩
  have X3 := Lib.hid ((Y2.out.trans (hb.mono Y2.out.size)).alloc (Y2.out.trans (hb.mono Y2.out.size)).size (.cells #[.int .i64 0, .int .u16 0] 44))
  clear hb C2 O2 B2
  go_wp2_with (first
    | (at_make; refine make_full _ _ rfl _ _ 37 rfl .u16 23 2 Try.underlying37 info_word6 _ 20 rfl rfl (by decide) (by decide) (Below.refl _ _) (Nat.le_refl _) ?_; intro q3 hown hb hlt; (have O3 := Lib.hid hown); (have B3 := Lib.hid hb); clear hown hb hlt)
    | fail)
  have C3 := (Blk.new (p3.alloc (.cells #[.int .i64 0, .int .u16 0] 44)) 26 [.int .i64 5, .int .u8 0] (p3.heap.size + 1) (by simp)).below B3.out (by simp)
  have Y3 := Lib.hid ((X3.out.alloc X3.out.size (.cells #[.int .i64 5, .int .u8 0] 26)).trans (B3.out.mono (by have := X3.out.size; simp at this ⊢; omega)))
  have R3 := O3.out.rowAt (fun _ => 0) (by simp) (fun i hi => by rw [List.getD_eq_getElem?_getD, List.getElem?_replicate]; split <;> rfl)
  refine (Serve_one2 5 0 (p3.heap.size + 1) _ _ _ _ (fun _ => 0) (by omega) _ (C3.cell 0 _ rfl) (C3.cell 1 _ rfl) (by first | exact R3 | simpa using R3) (by omega) (by omega)).mono ?_
  rintro e p4 ⟨rfl, hb⟩
  have X4 := Lib.hid ((Y3.out.trans (hb.mono Y3.out.size)).alloc (Y3.out.trans (hb.mono Y3.out.size)).size (.cells #[.int .i64 0, .int .u16 0] 44))
  clear hb C3 O3 B3
  go_wp2_with (fail)
  refine (gives_yes 5 1 6 0 (by omega) (by omega) (by decide) (by decide) (by omega) _).mono ?_
  rintro e v5 ⟨rfl, hb⟩
  have X5 := Lib.hid (X4.out.trans (hb.mono X4.out.size))
  clear hb X4
  go_wp2_with (fail)
  refine (gives_yes 32767 1 1 0 (by omega) (by omega) (by decide) (by decide) (by omega) _).mono ?_
  rintro e v6 ⟨rfl, hb⟩
  have X6 := Lib.hid (X5.out.trans (hb.mono X5.out.size))
  clear hb X5
  go_wp2_with (fail)
  refine (gives_yes 5 2 4 0 (by omega) (by omega) (by decide) (by decide) (by omega) _).mono ?_
  rintro e v7 ⟨rfl, hb⟩
  have X7 := Lib.hid (X6.out.trans (hb.mono X6.out.size))
  clear hb X6
  go_wp2_with (fail)
  refine (gives_yes 0 2 32766 0 (by omega) (by omega) (by decide) (by decide) (by omega) _).mono ?_
  rintro e v8 ⟨rfl, hb⟩
  have X8 := Lib.hid (X7.out.trans (hb.mono X7.out.size))
  clear hb X7
  go_wp2_with (fail)
  refine (gives_yes 32767 3 0 0 (by omega) (by omega) (by decide) (by decide) (by omega) _).mono ?_
  rintro e v9 ⟨rfl, hb⟩
  have X9 := Lib.hid (X8.out.trans (hb.mono X8.out.size))
  clear hb X8
  go_wp2_with (fail)
  refine (gives_yes 0 4 32767 0 (by omega) (by omega) (by decide) (by decide) (by omega) _).mono ?_
  rintro e v10 ⟨rfl, hb⟩
  have X10 := Lib.hid (X9.out.trans (hb.mono X9.out.size))
  clear hb X9
  go_wp2_with (fail)
  refine (gives_yes 1 5 0 1 (by omega) (by omega) (by decide) (by decide) (by omega) _).mono ?_
  rintro e v11 ⟨rfl, hb⟩
  have X11 := Lib.hid (X10.out.trans (hb.mono X10.out.size))
  clear hb X10
  go_wp2_with (fail)
  refine (gives_yes 0 5 0 0 (by omega) (by omega) (by decide) (by decide) (by omega) _).mono ?_
  rintro e v12 ⟨rfl, hb⟩
  have X12 := Lib.hid (X11.out.trans (hb.mono X11.out.size))
  clear hb X11
  go_wp2_with (fail)
  refine (gives_yes 65535 5 32767 0 (by omega) (by omega) (by decide) (by decide) (by omega) _).mono ?_
  rintro e v13 ⟨rfl, hb⟩
  have X13 := Lib.hid (X12.out.trans (hb.mono X12.out.size))
  clear hb X12
  go_wp2_with (fail)
  refine (causes_yes 22 1 1 3 (by decide) (by decide) _).mono ?_
  rintro e v14 ⟨rfl, hb⟩
  have X14 := Lib.hid (X13.out.trans (hb.mono X13.out.size))
  clear hb X13
  go_wp2_with (fail)
  refine (causes_yes 23 1 1 4 (by decide) (by decide) _).mono ?_
  rintro e v15 ⟨rfl, hb⟩
  have X15 := Lib.hid (X14.out.trans (hb.mono X14.out.size))
  clear hb X14
  go_wp2_with (fail)
  refine (causes_yes 24 1 1 2 (by decide) (by decide) _).mono ?_
  rintro e v16 ⟨rfl, hb⟩
  have X16 := Lib.hid (X15.out.trans (hb.mono X15.out.size))
  clear hb X15
  go_wp2_with (fail)
  refine (causes_yes 37 7 1 7 (by decide) (by decide) _).mono ?_
  rintro e v17 ⟨rfl, hb⟩
  have X17 := Lib.hid (X16.out.trans (hb.mono X16.out.size))
  clear hb X16
  go_wp2_with (fail)
  refine (causes_yes 25 5 1 0 (by decide) (by decide) _).mono ?_
  rintro e v18 ⟨rfl, hb⟩
  have X18 := Lib.hid (X17.out.trans (hb.mono X17.out.size))
  clear hb X17
  go_wp2_with (fail)
  refine (causes_yes 25 1 0 0 (by decide) (by decide) _).mono ?_
  rintro e v19 ⟨rfl, hb⟩
  have X19 := Lib.hid (X18.out.trans (hb.mono X18.out.size))
  clear hb X18
  go_wp2_with (fail)
  refine (causes_yes 21 1 0 0 (by decide) (by decide) _).mono ?_
  rintro e v20 ⟨rfl, hb⟩
  have X20 := Lib.hid (X19.out.trans (hb.mono X19.out.size))
  clear hb X19
  go_wp2_with (fail)
  refine (causes_yes 26 1 1 0 (by decide) (by decide) _).mono ?_
  rintro e v21 ⟨rfl, hb⟩
  have X21 := Lib.hid (X20.out.trans (hb.mono X20.out.size))
  clear hb X20
  go_wp2_with (fail)
  refine (works_any _).mono ?_
  rintro e v22 ⟨rfl, hb⟩
  have X22 := Lib.hid (X21.out.trans (hb.mono X21.out.size))
  clear hb X21
  go_wp2_with (fail)
  go_ret
  exact ⟨rfl, X22.out⟩
end Go.Proofs.Ytkobomcpohccdaa
