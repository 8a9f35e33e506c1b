/- Layer 4: when two names are equal. -/
import Derived.Test.YtfndbdcapliclaaGreatDoorQ06
import Derived.Test.YtfndbdcapliclaaGreatDoorQ03
set_option linter.unusedSimpArgs false
set_option linter.unusedVariables false
namespace Go.Proofs.YtfndbdcapliclaaGreatDoor
open Go.RowKit
theorem nmT_TC (i : Nat) (hi : i < 39) : (nm i).toList = [84, 67] ↔ i = 0 := by
  rw [ByteArray.toList_eq, ← nm_TC i hi]
  constructor
  · intro h; cases hs : nm i with | mk d => rw [hs] at h; congr 1; exact Array.toList_inj.1 h
  · intro h; rw [h]
theorem nmT_INDEX (i : Nat) (hi : i < 39) : (nm i).toList = [73, 78, 68, 69, 88] ↔ i = 12 := by
  rw [ByteArray.toList_eq, ← nm_INDEX i hi]
  constructor
  · intro h; cases hs : nm i with | mk d => rw [hs] at h; congr 1; exact Array.toList_inj.1 h
  · intro h; rw [h]
theorem toList_inj' (a b : ByteArray) : a.toList = b.toList ↔ a = b := by
  rw [ByteArray.toList_eq, ByteArray.toList_eq]
  constructor
  · intro h; cases a; cases b; congr 1; exact Array.toList_inj.1 h
  · intro h; rw [h]
end Go.Proofs.YtfndbdcapliclaaGreatDoor

/- Contracts of layer 4: the reference's Of (no instruction), Range, reserved. -/
set_option linter.unusedSimpArgs false
set_option linter.unusedVariables false
namespace Go.Proofs.YtfndbdcapliclaaGreatDoor
open Go.ChangeShapes Go.WideShapes Go.ChangeAt Go.RowKit
theorem below6 {w w3 : World} {g : Nat} (h : Below w.heap.size w w3) (hg : w.heap.size ≤ g) (v0 v1 v2 v3 v4 v5 : Value) : Below w.heap.size w ((((((w3.setCell ⟨g, 0, none⟩ v0).setCell ⟨g, 1, none⟩ v1).setCell ⟨g, 2, none⟩ v2).setCell ⟨g, 3, none⟩ v3).setCell ⟨g, 4, none⟩ v4).setCell ⟨g, 5, none⟩ v5) :=
  (((((h.setCell (p := ⟨g, 0, none⟩) hg _).setCell (p := ⟨g, 1, none⟩) hg _).setCell (p := ⟨g, 2, none⟩) hg _).setCell (p := ⟨g, 3, none⟩) hg _).setCell (p := ⟨g, 4, none⟩) hg _).setCell (p := ⟨g, 5, none⟩) hg _
theorem at_alloc {w : World} {T : TypeId} (cs : List Value) : ∀ j v, cs[j]? = some v → (w.alloc (.cells cs.toArray T)).cell? ⟨w.heap.size, j, none⟩ = some v := by
  intro j v hj
  rw [World.cell?_alloc_at _ _ _ _ rfl]
  simpa using hj
theorem rOf_no (c : Int) (h : ¬ (1 ≤ c ∧ c ≤ 39)) (w : World) :
    Calls Tryz.prog 84 #[.int .u8 c] w fun e w' => e = .returned (.tuple #[.agg #[.int .u8 0, .string ⟨#[]⟩, .bool false, .int .u8 0, .int .i64 0, .int .i64 0], .int .i64 7]) ∧ Below w.heap.size w w' := by
  by_cases h1 : c < 1
  · clear h
    go_enter Tryz.func84, Tryz.ntmps84
    go_wp2
    exact ret_struct2 Tryz.results84 Tryz.underlying41 [.int .u8 0, .string ⟨#[]⟩, .bool false, .int .u8 0, .int .i64 0, .int .i64 0] (by kernel_rfl) w.heap.size rfl (at_alloc [.int .u8 0, .string ⟨#[]⟩, .bool false, .int .u8 0, .int .i64 0, .int .i64 0]) (.int .i64 7) rfl rfl ⟨rfl, (Below.refl _ _).alloc (Nat.le_refl _) _⟩
  · have h2 : 39 < c := by omega
    clear h
    go_enter Tryz.func84, Tryz.ntmps84
    go_wp2
    exact ret_struct2 Tryz.results84 Tryz.underlying41 [.int .u8 0, .string ⟨#[]⟩, .bool false, .int .u8 0, .int .i64 0, .int .i64 0] (by kernel_rfl) w.heap.size rfl (at_alloc [.int .u8 0, .string ⟨#[]⟩, .bool false, .int .u8 0, .int .i64 0, .int .i64 0]) (.int .i64 7) rfl rfl ⟨rfl, (Below.refl _ _).alloc (Nat.le_refl _) _⟩
set_option maxHeartbeats 2000000 in
theorem rRange_any (c0 : Int) (s : ByteArray) (b : Bool) (k x y : Int) (w : World) :
    Calls Tryz.prog 138 #[.agg #[.int .u8 c0, .string s, .bool b, .int .u8 k, .int .i64 x, .int .i64 y]] w fun e w' => e = .returned (.tuple #[.int .i64 (lo k), .int .i64 (hi k)]) ∧ Below w.heap.size w w' := by
  by_cases h1 : k = 1
  · subst h1
    go_enter Tryz.func138, Tryz.ntmps138
    go_wp2
    go_ret2
    exact ⟨rfl, (Below.refl _ _).alloc (Nat.le_refl _) _⟩
  by_cases h2 : k = 2
  · subst h2
    go_enter Tryz.func138, Tryz.ntmps138
    go_wp2
    go_ret2
    exact ⟨rfl, (Below.refl _ _).alloc (Nat.le_refl _) _⟩
  by_cases h3 : k = 3
  · subst h3
    go_enter Tryz.func138, Tryz.ntmps138
    go_wp2
    go_ret2
    exact ⟨rfl, (Below.refl _ _).alloc (Nat.le_refl _) _⟩
  by_cases h4 : k = 4
  · subst h4
    go_enter Tryz.func138, Tryz.ntmps138
    go_wp2
    go_ret2
    exact ⟨rfl, (Below.refl _ _).alloc (Nat.le_refl _) _⟩
  have e0 : 0 = lo k := by unfold lo; rw [if_neg h2]
  have e1 : 0 = hi k := by unfold hi; rw [if_neg h1, if_neg h2, if_neg h3, if_neg h4]
  have E0 := Lib.hid e0
  have E1 := Lib.hid e1
  have t1 : (k == 1) = false := by rw [beq_eq_false_iff_ne]; exact h1
  have t2 : (k == 2) = false := by rw [beq_eq_false_iff_ne]; exact h2
  have t3 : (k == 3) = false := by rw [beq_eq_false_iff_ne]; exact h3
  have t4 : (k == 4) = false := by rw [beq_eq_false_iff_ne]; exact h4
  clear e0 e1 h1 h2 h3 h4
  go_enter Tryz.func138, Tryz.ntmps138
  go_wp2
  go_ret2
  exact ⟨ret_tup2 E0.out E1.out, (Below.refl _ _).alloc (Nat.le_refl _) _⟩
def rsvB (i : Nat) (k : Int) : Bool := decide (rsv i k)
theorem ret_boolE {a b : Bool} (h : a = b) : Ending.returned (.bool a) = .returned (.bool b) := by rw [h]
theorem rsvB_0 (k : Int) : rsvB 0 k = (k == 3 || k == 4 || k == 6) := by
  unfold rsvB rsv
  by_cases h3 : k = 3
  · simp [h3]
  by_cases h4 : k = 4
  · simp [h4]
  by_cases h6 : k = 6 <;> simp [h3, h4, h6]
theorem rsvB_12 (k : Int) : rsvB 12 k = (k == 15) := by
  unfold rsvB rsv
  by_cases h3 : k = 15 <;> simp [h3]
theorem rsvB_no {i : Nat} (h0 : i ≠ 0) (h1 : i ≠ 12) (k : Int) : rsvB i k = false := by
  unfold rsvB rsv
  simp [h0, h1]
set_option maxHeartbeats 2000000 in
theorem rreserved_any (i : Nat) (hi : i < 39) (k : Int) (k0 : -9223372036854775808 ≤ k) (k1 : k ≤ 9223372036854775807) (w : World) :
    Calls Tryz.prog 139 #[.string (nm i), .int .i64 k] w fun e w' => e = .returned (.bool (rsvB i k)) ∧ w = w' := by
  have a1 := nmT_TC i hi
  have a2 := nmT_INDEX i hi
  by_cases h1 : i = 0
  · have e1 := a1.2 h1
    have e2 : ¬ (nm i).toList = [73, 78, 68, 69, 88] := fun c => by have := a2.1 c; omega
    have E := Lib.hid (show rsvB i k = (k == 3 || k == 4 || k == 6) by rw [h1]; exact rsvB_0 k)
    clear a1 a2 h1
    go_enter Tryz.func139, Tryz.ntmps139
    go_wp2
    all_goals
      go_ret
      exact ⟨ret_boolE (by first | (rw [E.out]; done) | (rw [E.out]; simp_all)), rfl⟩
  by_cases h2 : i = 12
  · have e2 := a2.2 h2
    have e1 : ¬ (nm i).toList = [84, 67] := fun c => by have := a1.1 c; omega
    have E := Lib.hid (show rsvB i k = (k == 15) by rw [h2]; exact rsvB_12 k)
    clear a1 a2 h1 h2
    go_enter Tryz.func139, Tryz.ntmps139
    go_wp2
    all_goals
      go_ret
      exact ⟨ret_boolE (by rw [E.out]), rfl⟩
  · have e1 : ¬ (nm i).toList = [84, 67] := fun c => h1 (a1.1 c)
    have e2 : ¬ (nm i).toList = [73, 78, 68, 69, 88] := fun c => h2 (a2.1 c)
    have E := Lib.hid (rsvB_no h1 h2 k)
    clear a1 a2 h1 h2
    go_enter Tryz.func139, Tryz.ntmps139
    go_wp2
    all_goals
      go_ret
      exact ⟨ret_boolE (by rw [E.out]), rfl⟩
end Go.Proofs.YtfndbdcapliclaaGreatDoor

/- Contracts of layer 4: the reference's Encode. -/
set_option linter.unusedSimpArgs false
set_option linter.unusedVariables false
namespace Go.Proofs.YtfndbdcapliclaaGreatDoor
open Go.ChangeShapes Go.WideShapes Go.ChangeAt Go.RowKit
/-- What Encode answers for instruction i. -/
def encW (i : Nat) (k : Int) : Int := if encOk i k then bs i + k else 0
def encE (i : Nat) (k : Int) : Int := if encOk i k then 0 else 3
theorem enc_no {i : Nat} {k : Int} (h : ¬ encOk i k) : 0 = encW i k ∧ 3 = encE i k := by unfold encW encE; rw [if_neg h, if_neg h]; exact ⟨rfl, rfl⟩
theorem enc_yes {i : Nat} {k : Int} (h : encOk i k) : bs i + k = encW i k ∧ 0 = encE i k := by unfold encW encE; rw [if_pos h, if_pos h]; exact ⟨rfl, rfl⟩
theorem rEncode_no (c0 : Int) (s : ByteArray) (b : Bool) (q x y : Int) (h : ¬ (1 ≤ c0 ∧ c0 ≤ 39)) (k : Int) (w : World) :
    Calls Tryz.prog 85 #[.agg #[.int .u8 c0, .string s, .bool b, .int .u8 q, .int .i64 x, .int .i64 y], .int .i64 k] w fun e w' => e = .returned (.tuple #[.int .u16 0, .int .i64 7]) ∧ Below w.heap.size w w' := by
  go_enter Tryz.func85, Tryz.ntmps85
  go_wp2_with (go_at_call 84; refine (rOf_no c0 h _).mono ?_; rintro e w1 ⟨rfl, hb1⟩; (have X1 := Lib.hid (((Below.refl w.heap.size w).alloc (Nat.le_refl _) _).trans (hb1.mono (by simp)))); clear hb1)
  go_ret2
  exact ⟨rfl, X1.out.alloc X1.out.size _⟩
set_option maxHeartbeats 4000000 in
theorem rEncode_yes (c0 : Int) (s : ByteArray) (b : Bool) (q x y : Int) (i : Nat) (h39 : i < 39) (hc : c0 - 1 = i) (k : Int) (k0 : -9223372036854775808 ≤ k) (k1 : k ≤ 9223372036854775807) (w : World) :
    Calls Tryz.prog 85 #[.agg #[.int .u8 c0, .string s, .bool b, .int .u8 q, .int .i64 x, .int .i64 y], .int .i64 k] w fun e w' => e = .returned (.tuple #[.int .u16 (encW i k), .int .i64 (encE i k)]) ∧ Below w.heap.size w w' := by
  have HI := Lib.hid h39
  have HC := Lib.hid hc
  have hlh := bs_hi i h39
  have hcb : 1 ≤ c0 ∧ c0 ≤ 39 := by omega
  by_cases d : encOk i k
  · obtain ⟨d1, d2, d3⟩ := d
    have E := Lib.hid (enc_yes ⟨d1, d2, d3⟩)
    have R : rsvB i k = false := by unfold rsvB; simp [d3]
    have bsb := bs_bd i h39
    clear d3
    go_enter Tryz.func85, Tryz.ntmps85
    go_wp2_with (first
      | (go_at_call 84; refine (rOf_yes c0 i HI.out HC.out _).mono ?_; rintro e w1 ⟨rfl, hb1⟩; (have X1 := Lib.hid (((Below.refl w.heap.size w).alloc (Nat.le_refl _) _).trans (hb1.mono (by simp)))); clear hb1)
      | (go_at_call 138; refine (rRange_any _ _ _ _ _ _ _).mono ?_; rintro e w2 ⟨rfl, hb2⟩; (obtain ⟨hk1, hk2⟩ := bcell hb2); (have hz2 : w1.heap.size < w2.heap.size := by have := hb2.size; simp at this; omega); (have X2 := Lib.hid ((X1.out.alloc X1.out.size _).trans (hb2.mono (by have := X1.out.size; simp; omega)))); clear hb2)
      | (go_at_call 139; refine (rreserved_any i HI.out k k0 k1 _).mono ?_; rintro e w3 ⟨rfl, rfl⟩))
    have e1 : IntKind.u8.wrap (c0 - 1) = (i : Int) := by rw [HC.out]; exact IntWalk.u8_in _ (by omega)
    have e2 : IntKind.u8.wrap (i : Int) = (i : Int) := IntWalk.u8_in _ (by omega)
    have e3 : IntKind.i64.wrap (bs i + k) = bs i + k := IntWalk.i64_in _ (by omega)
    have e4 : IntKind.u16.wrap (bs i + k) = bs i + k := IntWalk.u16_in _ (by omega)
    go_region_with (go_at_call 83; refine (rbases_any _).mono ?_; rintro e w4 ⟨g4, c4, rfl, hg3, hg4, hcell4, hb4⟩; (replace hb4 := from_drew hb4); (obtain ⟨hn1, hn2⟩ := bcell hb4); (have cell4 := hcell4 i HI.out); (have X4 := Lib.hid (X2.out.trans (hb4.mono X2.out.size))); clear hcell4 hb4)
    all_goals
      go_wp2
      go_ret2
      exact ⟨ret_tup2 E.out.1 E.out.2, X4.out⟩
  · have E := Lib.hid (enc_no d)
    have d' : k < lo (kd i) ∨ hi (kd i) < k ∨ (lo (kd i) ≤ k ∧ k ≤ hi (kd i) ∧ rsvB i k = true) := by
      by_cases c1 : k < lo (kd i)
      · exact .inl c1
      by_cases c2 : hi (kd i) < k
      · exact .inr (.inl c2)
      refine .inr (.inr ⟨by omega, by omega, ?_⟩)
      unfold rsvB
      by_cases c3 : rsv i k
      · simp [c3]
      · exact absurd ⟨by omega, by omega, c3⟩ d
    clear d
    rcases d' with d1 | d1 | ⟨d1, d2, R⟩
    all_goals
      go_enter Tryz.func85, Tryz.ntmps85
      go_wp2_with (first
        | (go_at_call 84; refine (rOf_yes c0 i HI.out HC.out _).mono ?_; rintro e w1 ⟨rfl, hb1⟩; (have X1 := Lib.hid (((Below.refl w.heap.size w).alloc (Nat.le_refl _) _).trans (hb1.mono (by simp)))); clear hb1)
        | (go_at_call 138; refine (rRange_any _ _ _ _ _ _ _).mono ?_; rintro e w2 ⟨rfl, hb2⟩; (obtain ⟨hk1, hk2⟩ := bcell hb2); (have hz2 : w1.heap.size < w2.heap.size := by have := hb2.size; simp at this; omega); (have X2 := Lib.hid ((X1.out.alloc X1.out.size _).trans (hb2.mono (by have := X1.out.size; simp; omega)))); clear hb2)
        | (go_at_call 139; refine (rreserved_any i HI.out k k0 k1 _).mono ?_; rintro e w3 ⟨rfl, rfl⟩))
      go_ret2
      exact ⟨ret_tup2 E.out.1 E.out.2, X2.out⟩
end Go.Proofs.YtfndbdcapliclaaGreatDoor

/- Results that are structs and lie in memory. -/
set_option linter.unusedSimpArgs false
set_option linter.unusedVariables false
namespace Go.Proofs.YtfndbdcapliclaaGreatDoor
open Go.ChangeShapes Go.WideShapes Go.ChangeAt Go.RowKit
theorem results_cell_tmp2 {fn : Func} {p u v : Tmp} {ty : TypeId} (h : fn.results = #[.cell p ty, .tmp u, .tmp v]) (tmps : Array Value) (P : Program) (w : World) :
    (results fn tmps).run P w =
      ((asAddr (tmps.getD p undef)).run P w).andThen fun a w₁ => ((loadVar ty a).run P w₁).andThen fun x w₂ => .ok (.tuple #[x, tmps.getD u undef, tmps.getD v undef]) w₂ := by
  simp only [results, h]
  simp [Sem.run_bind, Result.andThen]
theorem ret_struct3 {P : Program} {fn : Func} {R : Ending → World → Prop} {a : Act} {w : World} {p u v : Tmp} {T : TypeId} {fs : Array Field} (hres : fn.results = #[.cell p T, .tmp u, .tmp v]) (ht : P.underlying T = some (.struct fs)) (cs : List Value) (hi : (P.info? T).map (·.size) = some cs.length) (g : Nat)
    (hp : a.tmps.getD p undef = .pointer (some ⟨g, 0, none⟩)) (hc : ∀ j v, cs[j]? = some v → w.cell? ⟨g, j, none⟩ = some v) (x y : Value) (hx : a.tmps.getD u undef = x) (hy : a.tmps.getD v undef = y) (hd : a.defers = []) (hR : R (.returned (.tuple #[.agg cs.toArray, x, y])) w) : bodyPost P fn R .ret a w := by
  refine bodyPost_ret ?_ hd hR
  rw [results_cell_tmp2 hres, hp, hx, hy]
  simp [asAddr, Sem.run_bind, Result.andThen, run_loadVar_struct ht cs hi w g hc]
theorem cell_drew (W : World) (p : Addr) : W.drew.cell? p = W.cell? p := rfl
theorem set6d {w : World} {g : Nat} (h : ∀ j, j < 6 → (w.cell? ⟨g, j, none⟩).isSome = true) (v0 v1 v2 v3 v4 v5 : Value) :
    ∀ j v, [v0, v1, v2, v3, v4, v5][j]? = some v → ((((((w.setCell ⟨g, 0, none⟩ v0).setCell ⟨g, 1, none⟩ v1).setCell ⟨g, 2, none⟩ v2).setCell ⟨g, 3, none⟩ v3).setCell ⟨g, 4, none⟩ v4).setCell ⟨g, 5, none⟩ v5).drew.cell? ⟨g, j, none⟩ = some v := by
  intro j v hj
  rw [cell_drew]
  exact set6 h v0 v1 v2 v3 v4 v5 j v hj
end Go.Proofs.YtfndbdcapliclaaGreatDoor
