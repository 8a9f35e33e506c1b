/- Contracts of layer 5: lists that are compared. -/
import Derived.Test.YtfndbdcapliclaaGreatDoorQ05
set_option linter.unusedSimpArgs false
set_option linter.unusedVariables false
namespace Go.Proofs.YtfndbdcapliclaaGreatDoor
open Go.ChangeShapes Go.WideShapes Go.ChangeAt Go.RowKit
/-- How a list of pairs is read. -/
def Prs (k1 k2 : IntKind) (w : World) (A : Option Addr) (L : List (Int × Int)) : Prop := ∀ i, i < L.length → ∃ g, A = some ⟨g, 0, none⟩ ∧ w.cell? ⟨g, i * 2, none⟩ = some (.int k1 (L.getD i (0, 0)).1) ∧ w.cell? ⟨g, i * 2 + 1, none⟩ = some (.int k2 (L.getD i (0, 0)).2)
theorem OwnP.prs {k1 k2 : IntKind} {T : TypeId} {w : World} {B : Nat} {v : Value} {L : List (Int × Int)} (h : OwnP k1 k2 T w B v L) : ∃ A c, v = .slice A L.length c ∧ Prs k1 k2 w A L := by
  have h0 : w.ownsRow B T 2 v L.length _ := h
  rcases h.2 with ⟨rfl, e⟩ | ⟨g, cap, cur, rfl, hb, hh, h1, h2, h3, h4⟩
  · exact ⟨none, 0, by rw [e], fun i hi => by omega⟩
  · refine ⟨_, cap, rfl, fun i hi => ⟨g, rfl, ?_, ?_⟩⟩
    · rw [World.ownsRow.cellAt (g := g) (cap := cap) h0 (i * 2) (by omega)]
      exact (flat2_get _ _ _ i hi).1
    · rw [World.ownsRow.cellAt (g := g) (cap := cap) h0 (i * 2 + 1) (by omega)]
      exact (flat2_get _ _ _ i hi).2
theorem Prs.drewN {k1 k2 : IntKind} {w : World} {A : Option Addr} {L : List (Int × Int)} (h : Prs k1 k2 w A L) (m : Nat) : Prs k1 k2 (w.drewN m) A L := h
theorem Prs.below {k1 k2 : IntKind} {w w' : World} {A : Option Addr} {L : List (Int × Int)} {B : Nat} (h : Prs k1 k2 w A L) (hb : Below B w w') (hB : w.heap.size ≤ B) : Prs k1 k2 w' A L := fun i hi => by
  obtain ⟨g, e, h1, h2⟩ := h i hi
  exact ⟨g, e, (hb.cell (Nat.lt_of_lt_of_le (lt_of_cell h1) hB)).trans h1, (hb.cell (Nat.lt_of_lt_of_le (lt_of_cell h2) hB)).trans h2⟩
set_option maxHeartbeats 2000000 in
theorem spots_same (A1 A2 : Option Addr) (c1 c2 n : Nat) (L : List (Int × Int)) (hn : L.length = n) (w : World) (h1 : Prs .u8 .i64 w A1 L) (h2 : Prs .u8 .i64 w A2 L) (hl : n ≤ 1000) :
    Calls Tryz.prog 16 #[.slice A1 n c1, .slice A2 n c2] w fun e w' => e = .returned (.bool true) ∧ ∃ m, w' = w.drewN m := by
  subst hn
  have H1 := Lib.hid h1
  have H2 := Lib.hid h2
  clear h1 h2
  obtain ⟨n, hn⟩ : ∃ n, L.length = n := ⟨_, rfl⟩
  rw [hn] at hl ⊢
  have HN := Lib.hid hn
  clear hn
  go_enter Tryz.func16, Tryz.ntmps16
  go_wp2
  go_loopw [5] (fun j wr => ∃ k : Nat, k ≤ n ∧ j = .int .i64 k ∧ ∃ m, wr = w.drewN m) (fun j _ => n - (intOf j).toNat)
  case atStart => exact ⟨0, Nat.zero_le _, rfl, 0, rfl⟩
  case round =>
    obtain ⟨k, hk, rfl, m, rfl⟩ := hrel
    by_cases hlt : k < n
    · obtain ⟨g1, rfl, d1, d2⟩ := H1.out k (by rw [HN.out]; exact hlt)
      obtain ⟨g2, rfl, d3, d4⟩ := H2.out k (by rw [HN.out]; exact hlt)
      generalize (L.getD k (0, 0)).1 = p at d1 d3
      generalize (L.getD k (0, 0)).2 = q at d2 d4
      go_wp2
      go_quiet (fail)
      go_wp2
      exact ⟨⟨k + 1, by omega, by go_num, _, rfl⟩, by simp [intOf]; omega⟩
    · have e : k = n := by omega
      subst e
      go_wp2
      go_ret
      exact ⟨rfl, _, rfl⟩
set_option maxHeartbeats 2000000 in
theorem lcells_same (A1 A2 : Option Addr) (c1 c2 n : Nat) (L : List (Int × Int)) (hn : L.length = n) (w : World) (h1 : Prs .i64 .u16 w A1 L) (h2 : Prs .i64 .u16 w A2 L) (hl : n ≤ 1000) :
    Calls Tryz.prog 29 #[.slice A1 n c1, .slice A2 n c2] w fun e w' => e = .returned (.bool true) ∧ ∃ m, w' = w.drewN m := by
  subst hn
  have H1 := Lib.hid h1
  have H2 := Lib.hid h2
  clear h1 h2
  obtain ⟨n, hn⟩ : ∃ n, L.length = n := ⟨_, rfl⟩
  rw [hn] at hl ⊢
  have HN := Lib.hid hn
  clear hn
  go_enter Tryz.func29, Tryz.ntmps29
  go_wp2
  go_loopw [5] (fun j wr => ∃ k : Nat, k ≤ n ∧ j = .int .i64 k ∧ ∃ m, wr = w.drewN m) (fun j _ => n - (intOf j).toNat)
  case atStart => exact ⟨0, Nat.zero_le _, rfl, 0, rfl⟩
  case round =>
    obtain ⟨k, hk, rfl, m, rfl⟩ := hrel
    by_cases hlt : k < n
    · obtain ⟨g1, rfl, d1, d2⟩ := H1.out k (by rw [HN.out]; exact hlt)
      obtain ⟨g2, rfl, d3, d4⟩ := H2.out k (by rw [HN.out]; exact hlt)
      generalize (L.getD k (0, 0)).1 = p at d1 d3
      generalize (L.getD k (0, 0)).2 = q at d2 d4
      go_wp2
      go_quiet (fail)
      go_wp2
      exact ⟨⟨k + 1, by omega, by go_num, _, rfl⟩, by simp [intOf]; omega⟩
    · have e : k = n := by omega
      subst e
      go_wp2
      go_ret
      exact ⟨rfl, _, rfl⟩
set_option maxHeartbeats 2000000 in
theorem rCells_same (A1 A2 : Option Addr) (c1 c2 n : Nat) (L : List (Int × Int)) (hn : L.length = n) (w : World) (h1 : Prs .i64 .u16 w A1 L) (h2 : Prs .i64 .u16 w A2 L) (hl : n ≤ 1000) :
    Calls Tryz.prog 59 #[.slice A1 n c1, .slice A2 n c2] w fun e w' => e = .returned (.bool true) ∧ ∃ m, w' = w.drewN m := by
  subst hn
  have H1 := Lib.hid h1
  have H2 := Lib.hid h2
  clear h1 h2
  obtain ⟨n, hn⟩ : ∃ n, L.length = n := ⟨_, rfl⟩
  rw [hn] at hl ⊢
  have HN := Lib.hid hn
  clear hn
  go_enter Tryz.func59, Tryz.ntmps59
  go_wp2
  go_loopw [5] (fun j wr => ∃ k : Nat, k ≤ n ∧ j = .int .i64 k ∧ ∃ m, wr = w.drewN m) (fun j _ => n - (intOf j).toNat)
  case atStart => exact ⟨0, Nat.zero_le _, rfl, 0, rfl⟩
  case round =>
    obtain ⟨k, hk, rfl, m, rfl⟩ := hrel
    by_cases hlt : k < n
    · obtain ⟨g1, rfl, d1, d2⟩ := H1.out k (by rw [HN.out]; exact hlt)
      obtain ⟨g2, rfl, d3, d4⟩ := H2.out k (by rw [HN.out]; exact hlt)
      generalize (L.getD k (0, 0)).1 = p at d1 d3
      generalize (L.getD k (0, 0)).2 = q at d2 d4
      go_wp2
      go_quiet (fail)
      go_wp2
      exact ⟨⟨k + 1, by omega, by go_num, _, rfl⟩, by simp [intOf]; omega⟩
    · have e : k = n := by omega
      subst e
      go_wp2
      go_ret
      exact ⟨rfl, _, rfl⟩
/-- Two effects with the same lists are the same. -/
def dnV (AC : Option Addr) (cC nC : Nat) (AO : Option Addr) (cO nO : Nat) (AR : Option Addr) (cR nR : Nat) (cy op : Int) : Value := .agg #[.slice AC nC cC, .slice AO nO cO, .slice AR nR cR, .int .i64 cy, .int .u8 op]
set_option maxRecDepth 100000 in
set_option maxHeartbeats 600000 in
theorem rSame_yes (C O R : List (Int × Int)) (cy op : Int) (AC AC2 AO AO2 AR AR2 : Option Addr) (cC cC2 cO cO2 cR cR2 nC nO nR : Nat) (hC : C.length = nC) (hO : O.length = nO) (hR : R.length = nR) (lC : nC ≤ 1000) (lO : nO ≤ 1000) (lR : nR ≤ 1000) (w : World)
    (p1 : Prs .i64 .u16 w AC C) (p2 : Prs .i64 .u16 w AC2 C) (p3 : Prs .i64 .u16 w AO O) (p4 : Prs .i64 .u16 w AO2 O) (p5 : Prs .u8 .i64 w AR R) (p6 : Prs .u8 .i64 w AR2 R) :
    Calls Tryz.prog 22 #[.agg #[.slice AC nC cC, .slice AO nO cO, .slice AR nR cR, .int .i64 cy, .int .u8 op], .agg #[.slice AC2 nC cC2, .slice AO2 nO cO2, .slice AR2 nR cR2, .int .i64 cy, .int .u8 op]] w fun e w' => e = .returned (.bool true) ∧ Below w.heap.size w w' := by
  have hb := below2 w (.cells #[.slice AC nC cC, .slice AO nO cO, .slice AR nR cR, .int .i64 cy, .int .u8 op] 48) (.cells #[.slice AC2 nC cC2, .slice AO2 nO cO2, .slice AR2 nR cR2, .int .i64 cy, .int .u8 op] 48)
  have P1 := Lib.hid (p1.below hb (Nat.le_refl _))
  have P2 := Lib.hid (p2.below hb (Nat.le_refl _))
  have P3 := Lib.hid (p3.below hb (Nat.le_refl _))
  have P4 := Lib.hid (p4.below hb (Nat.le_refl _))
  have P5 := Lib.hid (p5.below hb (Nat.le_refl _))
  have P6 := Lib.hid (p6.below hb (Nat.le_refl _))
  have HB := Lib.hid hb
  have HC := Lib.hid hC
  have HO := Lib.hid hO
  have HR := Lib.hid hR
  clear p1 p2 p3 p4 p5 p6 hb hC hO hR
  go_enter Tryz.func22, Tryz.ntmps22
  go_wp2
  have K1 : Blk ((w.alloc (.cells #[.slice AC nC cC, .slice AO nO cO, .slice AR nR cR, .int .i64 cy, .int .u8 op] 48)).alloc (.cells #[.slice AC2 nC cC2, .slice AO2 nO cO2, .slice AR2 nR cR2, .int .i64 cy, .int .u8 op] 48)) w.heap.size [.slice AC nC cC, .slice AO nO cO, .slice AR nR cR, .int .i64 cy, .int .u8 op] := (Blk.new w 48 [.slice AC nC cC, .slice AO nO cO, .slice AR nR cR, .int .i64 cy, .int .u8 op] _ rfl).alloc (by simp) _
  have K2 : Blk ((w.alloc (.cells #[.slice AC nC cC, .slice AO nO cO, .slice AR nR cR, .int .i64 cy, .int .u8 op] 48)).alloc (.cells #[.slice AC2 nC cC2, .slice AO2 nO cO2, .slice AR2 nR cR2, .int .i64 cy, .int .u8 op] 48)) (w.heap.size + 1) [.slice AC2 nC cC2, .slice AO2 nO cO2, .slice AR2 nR cR2, .int .i64 cy, .int .u8 op] := Blk.new (w.alloc (.cells #[.slice AC nC cC, .slice AO nO cO, .slice AR nR cR, .int .i64 cy, .int .u8 op] 48)) 48 [.slice AC2 nC cC2, .slice AO2 nO cO2, .slice AR2 nR cR2, .int .i64 cy, .int .u8 op] _ (by simp)
  generalize ((w.alloc (.cells #[.slice AC nC cC, .slice AO nO cO, .slice AR nR cR, .int .i64 cy, .int .u8 op] 48)).alloc (.cells #[.slice AC2 nC cC2, .slice AO2 nO cO2, .slice AR2 nR cR2, .int .i64 cy, .int .u8 op] 48)) = W at K1 K2 P1 P2 P3 P4 P5 P6 HB ⊢
  have b0 := K1.cell 0 _ rfl
  have f0 := K2.cell 0 _ rfl
  have b1 := K1.cell 1 _ rfl
  have f1 := K2.cell 1 _ rfl
  have b2 := K1.cell 2 _ rfl
  have f2 := K2.cell 2 _ rfl
  have b3 := K1.cell 3 _ rfl
  have f3 := K2.cell 3 _ rfl
  have b4 := K1.cell 4 _ rfl
  have f4 := K2.cell 4 _ rfl
  clear K1 K2
  go_loopw [5] (fun j wr => ∃ k : Nat, k ≤ nR ∧ j = .int .i64 k ∧ ∃ m, wr = W.drewN m) (fun j _ => nR - (intOf j).toNat)
  case atStart => exact ⟨0, Nat.zero_le _, rfl, 0, rfl⟩
  case round =>
    obtain ⟨k, hk, rfl, m, rfl⟩ := hrel
    by_cases hlt : k < nR
    · obtain ⟨g1, rfl, d1, d2⟩ := P5.out k (by rw [HR.out]; exact hlt)
      obtain ⟨g2, rfl, d3, d4⟩ := P6.out k (by rw [HR.out]; exact hlt)
      generalize (R.getD k (0, 0)).1 = p at d1 d3
      generalize (R.getD k (0, 0)).2 = q at d2 d4
      go_wp2
      go_quiet (fail)
      go_wp2
      exact ⟨⟨k + 1, by omega, by go_num, _, rfl⟩, by simp [intOf]; omega⟩
    · have e : k = nR := by omega
      subst e
      go_wp2_with (first
        | (go_at_call_of 59 (Value.slice AC nC cC); refine (rCells_same AC AC2 cC cC2 nC C HC.out _ (P1.out.drewN _) (P2.out.drewN _) lC).mono ?_; rintro e w1 ⟨rfl, m1, rfl⟩)
        | (go_at_call 59; refine (rCells_same AO AO2 cO cO2 nO O HO.out _ (P3.out.drewN _) (P4.out.drewN _) lO).mono ?_; rintro e w1 ⟨rfl, m2, rfl⟩))
      go_ret
      exact ⟨rfl, below_drewN HB.out _⟩
end Go.Proofs.YtfndbdcapliclaaGreatDoor
