/- Contracts of layer 5: lists that are compared. -/
import Derived.Test.YtjjkikghfmnikaaGreatDoorQ05
import Derived.Test.YtjjkikghfmnikaaGreatDoorQ04
set_option linter.unusedSimpArgs false
set_option linter.unusedVariables false
namespace Go.Proofs.YtjjkikghfmnikaaGreatDoor
open Go.ChangeShapes Go.WideShapes Go.ChangeAt Go.RowKit
set_option maxHeartbeats 2000000 in
theorem spots_same (A1 A2 : Option Addr) (c1 c2 n : Nat) (L : List (Int × Int)) (hn : L.length = n) (w : World) (h1 : Prs .u8 .i64 w A1 L) (h2 : Prs .u8 .i64 w A2 L) (hl : n ≤ 1000) :
    Calls Tryz.prog 15 #[.slice A1 n c1, .slice A2 n c2] w fun e w' => e = .returned (.bool true) ∧ ∃ m, w' = w.drewN m := by
  subst hn
  have H1 := Lib.hid h1
  have H2 := Lib.hid h2
  clear h1 h2
  obtain ⟨n, hn⟩ : ∃ n, L.length = n := ⟨_, rfl⟩
  rw [hn] at hl ⊢
  have HN := Lib.hid hn
  clear hn
  go_enter Tryz.func15, Tryz.ntmps15
  go_wp2
  go_loopw [5] (fun j wr => ∃ k : Nat, k ≤ n ∧ j = .int .i64 k ∧ ∃ m, wr = w.drewN m) (fun j _ => n - (intOf j).toNat)
  case atStart => exact ⟨0, Nat.zero_le _, rfl, 0, rfl⟩
  case round =>
    obtain ⟨k, hk, rfl, m, rfl⟩ := hrel
    by_cases hlt : k < n
    · obtain ⟨g1, rfl, d1, d2⟩ := H1.out k (by rw [HN.out]; exact hlt)
      obtain ⟨g2, rfl, d3, d4⟩ := H2.out k (by rw [HN.out]; exact hlt)
      generalize (L.getD k (0, 0)).1 = p at d1 d3
      generalize (L.getD k (0, 0)).2 = q at d2 d4
      go_wp2
      go_quiet (fail)
      go_wp2
      exact ⟨⟨k + 1, by omega, by go_num, _, rfl⟩, by simp [intOf]; omega⟩
    · have e : k = n := by omega
      subst e
      go_wp2
      go_ret
      exact ⟨rfl, _, rfl⟩
set_option maxHeartbeats 2000000 in
theorem lcells_same (A1 A2 : Option Addr) (c1 c2 n : Nat) (L : List (Int × Int)) (hn : L.length = n) (w : World) (h1 : Prs .i64 .u16 w A1 L) (h2 : Prs .i64 .u16 w A2 L) (hl : n ≤ 1000) :
    Calls Tryz.prog 23 #[.slice A1 n c1, .slice A2 n c2] w fun e w' => e = .returned (.bool true) ∧ ∃ m, w' = w.drewN m := by
  subst hn
  have H1 := Lib.hid h1
  have H2 := Lib.hid h2
  clear h1 h2
  obtain ⟨n, hn⟩ : ∃ n, L.length = n := ⟨_, rfl⟩
  rw [hn] at hl ⊢
  have HN := Lib.hid hn
  clear hn
  go_enter Tryz.func23, Tryz.ntmps23
  go_wp2
  go_loopw [5] (fun j wr => ∃ k : Nat, k ≤ n ∧ j = .int .i64 k ∧ ∃ m, wr = w.drewN m) (fun j _ => n - (intOf j).toNat)
  case atStart => exact ⟨0, Nat.zero_le _, rfl, 0, rfl⟩
  case round =>
    obtain ⟨k, hk, rfl, m, rfl⟩ := hrel
    by_cases hlt : k < n
    · obtain ⟨g1, rfl, d1, d2⟩ := H1.out k (by rw [HN.out]; exact hlt)
      obtain ⟨g2, rfl, d3, d4⟩ := H2.out k (by rw [HN.out]; exact hlt)
      generalize (L.getD k (0, 0)).1 = p at d1 d3
      generalize (L.getD k (0, 0)).2 = q at d2 d4
      go_wp2
      go_quiet (fail)
      go_wp2
      exact ⟨⟨k + 1, by omega, by go_num, _, rfl⟩, by simp [intOf]; omega⟩
    · have e : k = n := by omega
      subst e
      go_wp2
      go_ret
      exact ⟨rfl, _, rfl⟩
set_option maxHeartbeats 2000000 in
theorem rCells_same (A1 A2 : Option Addr) (c1 c2 n : Nat) (L : List (Int × Int)) (hn : L.length = n) (w : World) (h1 : Prs .i64 .u16 w A1 L) (h2 : Prs .i64 .u16 w A2 L) (hl : n ≤ 1000) :
    Calls Tryz.prog 60 #[.slice A1 n c1, .slice A2 n c2] w fun e w' => e = .returned (.bool true) ∧ ∃ m, w' = w.drewN m := by
  subst hn
  have H1 := Lib.hid h1
  have H2 := Lib.hid h2
  clear h1 h2
  obtain ⟨n, hn⟩ : ∃ n, L.length = n := ⟨_, rfl⟩
  rw [hn] at hl ⊢
  have HN := Lib.hid hn
  clear hn
  go_enter Tryz.func60, Tryz.ntmps60
  go_wp2
  go_loopw [5] (fun j wr => ∃ k : Nat, k ≤ n ∧ j = .int .i64 k ∧ ∃ m, wr = w.drewN m) (fun j _ => n - (intOf j).toNat)
  case atStart => exact ⟨0, Nat.zero_le _, rfl, 0, rfl⟩
  case round =>
    obtain ⟨k, hk, rfl, m, rfl⟩ := hrel
    by_cases hlt : k < n
    · obtain ⟨g1, rfl, d1, d2⟩ := H1.out k (by rw [HN.out]; exact hlt)
      obtain ⟨g2, rfl, d3, d4⟩ := H2.out k (by rw [HN.out]; exact hlt)
      generalize (L.getD k (0, 0)).1 = p at d1 d3
      generalize (L.getD k (0, 0)).2 = q at d2 d4
      go_wp2
      go_quiet (fail)
      go_wp2
      exact ⟨⟨k + 1, by omega, by go_num, _, rfl⟩, by simp [intOf]; omega⟩
    · have e : k = n := by omega
      subst e
      go_wp2
      go_ret
      exact ⟨rfl, _, rfl⟩
/-- Two effects with the same lists are the same. -/
def dnV (AC : Option Addr) (cC nC : Nat) (AO : Option Addr) (cO nO : Nat) (AR : Option Addr) (cR nR : Nat) (cy op : Int) : Value := .agg #[.slice AC nC cC, .slice AO nO cO, .slice AR nR cR, .int .i64 cy, .int .u8 op]
set_option maxRecDepth 100000 in
set_option maxHeartbeats 600000 in
theorem rSame_yes (C O R : List (Int × Int)) (cy op : Int) (AC AC2 AO AO2 AR AR2 : Option Addr) (cC cC2 cO cO2 cR cR2 nC nO nR : Nat) (hC : C.length = nC) (hO : O.length = nO) (hR : R.length = nR) (lC : nC ≤ 1000) (lO : nO ≤ 1000) (lR : nR ≤ 1000) (w : World)
    (p1 : Prs .i64 .u16 w AC C) (p2 : Prs .i64 .u16 w AC2 C) (p3 : Prs .i64 .u16 w AO O) (p4 : Prs .i64 .u16 w AO2 O) (p5 : Prs .u8 .i64 w AR R) (p6 : Prs .u8 .i64 w AR2 R) :
    Calls Tryz.prog 21 #[.agg #[.slice AC nC cC, .slice AO nO cO, .slice AR nR cR, .int .i64 cy, .int .u8 op], .agg #[.slice AC2 nC cC2, .slice AO2 nO cO2, .slice AR2 nR cR2, .int .i64 cy, .int .u8 op]] w fun e w' => e = .returned (.bool true) ∧ Below w.heap.size w w' := by
  have hb := below2 w (.cells #[.slice AC nC cC, .slice AO nO cO, .slice AR nR cR, .int .i64 cy, .int .u8 op] 48) (.cells #[.slice AC2 nC cC2, .slice AO2 nO cO2, .slice AR2 nR cR2, .int .i64 cy, .int .u8 op] 48)
  have P1 := Lib.hid (p1.below hb (Nat.le_refl _))
  have P2 := Lib.hid (p2.below hb (Nat.le_refl _))
  have P3 := Lib.hid (p3.below hb (Nat.le_refl _))
  have P4 := Lib.hid (p4.below hb (Nat.le_refl _))
  have P5 := Lib.hid (p5.below hb (Nat.le_refl _))
  have P6 := Lib.hid (p6.below hb (Nat.le_refl _))
  have HB := Lib.hid hb
  have HC := Lib.hid hC
  have HO := Lib.hid hO
  have HR := Lib.hid hR
  clear p1 p2 p3 p4 p5 p6 hb hC hO hR
  go_enter Tryz.func21, Tryz.ntmps21
  go_wp2
  have K1 : Blk ((w.alloc (.cells #[.slice AC nC cC, .slice AO nO cO, .slice AR nR cR, .int .i64 cy, .int .u8 op] 48)).alloc (.cells #[.slice AC2 nC cC2, .slice AO2 nO cO2, .slice AR2 nR cR2, .int .i64 cy, .int .u8 op] 48)) w.heap.size [.slice AC nC cC, .slice AO nO cO, .slice AR nR cR, .int .i64 cy, .int .u8 op] := (Blk.new w 48 [.slice AC nC cC, .slice AO nO cO, .slice AR nR cR, .int .i64 cy, .int .u8 op] _ rfl).alloc (by simp) _
  have K2 : Blk ((w.alloc (.cells #[.slice AC nC cC, .slice AO nO cO, .slice AR nR cR, .int .i64 cy, .int .u8 op] 48)).alloc (.cells #[.slice AC2 nC cC2, .slice AO2 nO cO2, .slice AR2 nR cR2, .int .i64 cy, .int .u8 op] 48)) (w.heap.size + 1) [.slice AC2 nC cC2, .slice AO2 nO cO2, .slice AR2 nR cR2, .int .i64 cy, .int .u8 op] := Blk.new (w.alloc (.cells #[.slice AC nC cC, .slice AO nO cO, .slice AR nR cR, .int .i64 cy, .int .u8 op] 48)) 48 [.slice AC2 nC cC2, .slice AO2 nO cO2, .slice AR2 nR cR2, .int .i64 cy, .int .u8 op] _ (by simp)
  generalize ((w.alloc (.cells #[.slice AC nC cC, .slice AO nO cO, .slice AR nR cR, .int .i64 cy, .int .u8 op] 48)).alloc (.cells #[.slice AC2 nC cC2, .slice AO2 nO cO2, .slice AR2 nR cR2, .int .i64 cy, .int .u8 op] 48)) = W at K1 K2 P1 P2 P3 P4 P5 P6 HB ⊢
  have b0 := K1.cell 0 _ rfl
  have f0 := K2.cell 0 _ rfl
  have b1 := K1.cell 1 _ rfl
  have f1 := K2.cell 1 _ rfl
  have b2 := K1.cell 2 _ rfl
  have f2 := K2.cell 2 _ rfl
  have b3 := K1.cell 3 _ rfl
  have f3 := K2.cell 3 _ rfl
  have b4 := K1.cell 4 _ rfl
  have f4 := K2.cell 4 _ rfl
  clear K1 K2
  go_loopw [5] (fun j wr => ∃ k : Nat, k ≤ nR ∧ j = .int .i64 k ∧ ∃ m, wr = W.drewN m) (fun j _ => nR - (intOf j).toNat)
  case atStart => exact ⟨0, Nat.zero_le _, rfl, 0, rfl⟩
  case round =>
    obtain ⟨k, hk, rfl, m, rfl⟩ := hrel
    by_cases hlt : k < nR
    · obtain ⟨g1, rfl, d1, d2⟩ := P5.out k (by rw [HR.out]; exact hlt)
      obtain ⟨g2, rfl, d3, d4⟩ := P6.out k (by rw [HR.out]; exact hlt)
      generalize (R.getD k (0, 0)).1 = p at d1 d3
      generalize (R.getD k (0, 0)).2 = q at d2 d4
      go_wp2
      go_quiet (fail)
      go_wp2
      exact ⟨⟨k + 1, by omega, by go_num, _, rfl⟩, by simp [intOf]; omega⟩
    · have e : k = nR := by omega
      subst e
      go_wp2_with (first
        | (go_at_call_of 60 (Value.slice AC nC cC); refine (rCells_same AC AC2 cC cC2 nC C HC.out _ (P1.out.drewN _) (P2.out.drewN _) lC).mono ?_; rintro e w1 ⟨rfl, m1, rfl⟩)
        | (go_at_call 60; refine (rCells_same AO AO2 cO cO2 nO O HO.out _ (P3.out.drewN _) (P4.out.drewN _) lO).mono ?_; rintro e w1 ⟨rfl, m2, rfl⟩))
      go_ret
      exact ⟨rfl, below_drewN HB.out _⟩
end Go.Proofs.YtjjkikghfmnikaaGreatDoor
