/- Layer 4: when two names are equal. -/
import Derived.Test.YtjjkikghfmnikaaGreatDoorQ06
import Derived.Test.YtjjkikghfmnikaaGreatDoorQ08
set_option linter.unusedSimpArgs false
set_option linter.unusedVariables false
namespace Go.Proofs.YtjjkikghfmnikaaGreatDoor
open Go.RowKit
theorem nmT_TC (i : Nat) (hi : i < 39) : (nm i).toList = [84, 67] ↔ i = 0 := by
  rw [ByteArray.toList_eq, ← nm_TC i hi]
  constructor
  · intro h; cases hs : nm i with | mk d => rw [hs] at h; congr 1; exact Array.toList_inj.1 h
  · intro h; rw [h]
theorem nmT_INDEX (i : Nat) (hi : i < 39) : (nm i).toList = [73, 78, 68, 69, 88] ↔ i = 12 := by
  rw [ByteArray.toList_eq, ← nm_INDEX i hi]
  constructor
  · intro h; cases hs : nm i with | mk d => rw [hs] at h; congr 1; exact Array.toList_inj.1 h
  · intro h; rw [h]
theorem toList_inj' (a b : ByteArray) : a.toList = b.toList ↔ a = b := by
  rw [ByteArray.toList_eq, ByteArray.toList_eq]
  constructor
  · intro h; cases a; cases b; congr 1; exact Array.toList_inj.1 h
  · intro h; rw [h]
end Go.Proofs.YtjjkikghfmnikaaGreatDoor

/- Contracts of layer 4: the reference's Of (no instruction), Range, reserved. -/
set_option linter.unusedSimpArgs false
set_option linter.unusedVariables false
namespace Go.Proofs.YtjjkikghfmnikaaGreatDoor
open Go.ChangeShapes Go.WideShapes Go.ChangeAt Go.RowKit
theorem below6 {w w3 : World} {g : Nat} (h : Below w.heap.size w w3) (hg : w.heap.size ≤ g) (v0 v1 v2 v3 v4 v5 : Value) : Below w.heap.size w ((((((w3.setCell ⟨g, 0, none⟩ v0).setCell ⟨g, 1, none⟩ v1).setCell ⟨g, 2, none⟩ v2).setCell ⟨g, 3, none⟩ v3).setCell ⟨g, 4, none⟩ v4).setCell ⟨g, 5, none⟩ v5) :=
  (((((h.setCell (p := ⟨g, 0, none⟩) hg _).setCell (p := ⟨g, 1, none⟩) hg _).setCell (p := ⟨g, 2, none⟩) hg _).setCell (p := ⟨g, 3, none⟩) hg _).setCell (p := ⟨g, 4, none⟩) hg _).setCell (p := ⟨g, 5, none⟩) hg _
theorem at_alloc {w : World} {T : TypeId} (cs : List Value) : ∀ j v, cs[j]? = some v → (w.alloc (.cells cs.toArray T)).cell? ⟨w.heap.size, j, none⟩ = some v := by
  intro j v hj
  rw [World.cell?_alloc_at _ _ _ _ rfl]
  simpa using hj
theorem rOf_no (c : Int) (h : ¬ (1 ≤ c ∧ c ≤ 39)) (w : World) :
    Calls Tryz.prog 85 #[.int .u8 c] w fun e w' => e = .returned (.tuple #[.agg #[.int .u8 0, .string ⟨#[]⟩, .bool false, .int .u8 0, .int .i64 0, .int .i64 0], .int .i64 7]) ∧ Below w.heap.size w w' := by
  by_cases h1 : c < 1
  · clear h
    go_enter Tryz.func85, Tryz.ntmps85
    go_wp2
    exact ret_struct2 Tryz.results85 Tryz.underlying41 [.int .u8 0, .string ⟨#[]⟩, .bool false, .int .u8 0, .int .i64 0, .int .i64 0] (by kernel_rfl) w.heap.size rfl (at_alloc [.int .u8 0, .string ⟨#[]⟩, .bool false, .int .u8 0, .int .i64 0, .int .i64 0]) (.int .i64 7) rfl rfl ⟨rfl, (Below.refl _ _).alloc (Nat.le_refl _) _⟩
  · have h2 : 39 < c := by omega
    clear h
    go_enter Tryz.func85, Tryz.ntmps85
    go_wp2
    exact ret_struct2 Tryz.results85 Tryz.underlying41 [.int .u8 0, .string ⟨#[]⟩, .bool false, .int .u8 0, .int .i64 0, .int .i64 0] (by kernel_rfl) w.heap.size rfl (at_alloc [.int .u8 0, .string ⟨#[]⟩, .bool false, .int .u8 0, .int .i64 0, .int .i64 0]) (.int .i64 7) rfl rfl ⟨rfl, (Below.refl _ _).alloc (Nat.le_refl _) _⟩
set_option maxHeartbeats 2000000 in
theorem rRange_any (c0 : Int) (s : ByteArray) (b : Bool) (k x y : Int) (w : World) :
    Calls Tryz.prog 147 #[.agg #[.int .u8 c0, .string s, .bool b, .int .u8 k, .int .i64 x, .int .i64 y]] w fun e w' => e = .returned (.tuple #[.int .i64 (lo k), .int .i64 (hi k)]) ∧ Below w.heap.size w w' := by
  by_cases h1 : k = 1
  · subst h1
    go_enter Tryz.func147, Tryz.ntmps147
    go_wp2
    go_ret2
    exact ⟨rfl, (Below.refl _ _).alloc (Nat.le_refl _) _⟩
  by_cases h2 : k = 2
  · subst h2
    go_enter Tryz.func147, Tryz.ntmps147
    go_wp2
    go_ret2
    exact ⟨rfl, (Below.refl _ _).alloc (Nat.le_refl _) _⟩
  by_cases h3 : k = 3
  · subst h3
    go_enter Tryz.func147, Tryz.ntmps147
    go_wp2
    go_ret2
    exact ⟨rfl, (Below.refl _ _).alloc (Nat.le_refl _) _⟩
  by_cases h4 : k = 4
  · subst h4
    go_enter Tryz.func147, Tryz.ntmps147
    go_wp2
    go_ret2
    exact ⟨rfl, (Below.refl _ _).alloc (Nat.le_refl _) _⟩
  have e0 : 0 = lo k := by unfold lo; rw [if_neg h2]
  have e1 : 0 = hi k := by unfold hi; rw [if_neg h1, if_neg h2, if_neg h3, if_neg h4]
  have E0 := Lib.hid e0
  have E1 := Lib.hid e1
  have t1 : (k == 1) = false := by rw [beq_eq_false_iff_ne]; exact h1
  have t2 : (k == 2) = false := by rw [beq_eq_false_iff_ne]; exact h2
  have t3 : (k == 3) = false := by rw [beq_eq_false_iff_ne]; exact h3
  have t4 : (k == 4) = false := by rw [beq_eq_false_iff_ne]; exact h4
  clear e0 e1 h1 h2 h3 h4
  go_enter Tryz.func147, Tryz.ntmps147
  go_wp2
  go_ret2
  exact ⟨ret_tup2 E0.out E1.out, (Below.refl _ _).alloc (Nat.le_refl _) _⟩
def rsvB (i : Nat) (k : Int) : Bool := decide (rsv i k)
theorem ret_boolE {a b : Bool} (h : a = b) : Ending.returned (.bool a) = .returned (.bool b) := by rw [h]
theorem rsvB_0 (k : Int) : rsvB 0 k = (k == 3 || k == 4 || k == 6) := by
  unfold rsvB rsv
  by_cases h3 : k = 3
  · simp [h3]
  by_cases h4 : k = 4
  · simp [h4]
  by_cases h6 : k = 6 <;> simp [h3, h4, h6]
theorem rsvB_12 (k : Int) : rsvB 12 k = (k == 15) := by
  unfold rsvB rsv
  by_cases h3 : k = 15 <;> simp [h3]
theorem rsvB_no {i : Nat} (h0 : i ≠ 0) (h1 : i ≠ 12) (k : Int) : rsvB i k = false := by
  unfold rsvB rsv
  simp [h0, h1]
set_option maxHeartbeats 2000000 in
theorem rreserved_any (i : Nat) (hi : i < 39) (k : Int) (k0 : -9223372036854775808 ≤ k) (k1 : k ≤ 9223372036854775807) (w : World) :
    Calls Tryz.prog 148 #[.string (nm i), .int .i64 k] w fun e w' => e = .returned (.bool (rsvB i k)) ∧ w = w' := by
  have a1 := nmT_TC i hi
  have a2 := nmT_INDEX i hi
  by_cases h1 : i = 0
  · have e1 := a1.2 h1
    have e2 : ¬ (nm i).toList = [73, 78, 68, 69, 88] := fun c => by have := a2.1 c; omega
    have E := Lib.hid (show rsvB i k = (k == 3 || k == 4 || k == 6) by rw [h1]; exact rsvB_0 k)
    clear a1 a2 h1
    go_enter Tryz.func148, Tryz.ntmps148
    go_wp2
    all_goals
      go_ret
      exact ⟨ret_boolE (by first | (rw [E.out]; done) | (rw [E.out]; simp_all)), rfl⟩
  by_cases h2 : i = 12
  · have e2 := a2.2 h2
    have e1 : ¬ (nm i).toList = [84, 67] := fun c => by have := a1.1 c; omega
    have E := Lib.hid (show rsvB i k = (k == 15) by rw [h2]; exact rsvB_12 k)
    clear a1 a2 h1 h2
    go_enter Tryz.func148, Tryz.ntmps148
    go_wp2
    all_goals
      go_ret
      exact ⟨ret_boolE (by rw [E.out]), rfl⟩
  · have e1 : ¬ (nm i).toList = [84, 67] := fun c => h1 (a1.1 c)
    have e2 : ¬ (nm i).toList = [73, 78, 68, 69, 88] := fun c => h2 (a2.1 c)
    have E := Lib.hid (rsvB_no h1 h2 k)
    clear a1 a2 h1 h2
    go_enter Tryz.func148, Tryz.ntmps148
    go_wp2
    all_goals
      go_ret
      exact ⟨ret_boolE (by rw [E.out]), rfl⟩
end Go.Proofs.YtjjkikghfmnikaaGreatDoor
