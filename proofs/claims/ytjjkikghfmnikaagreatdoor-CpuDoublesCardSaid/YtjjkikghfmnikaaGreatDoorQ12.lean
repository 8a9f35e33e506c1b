/- Contracts of layer 4: the reference's Decode. -/
import Derived.Test.YtjjkikghfmnikaaGreatDoorQ10
import Derived.Test.YtjjkikghfmnikaaGreatDoorQ11
set_option linter.unusedSimpArgs false
set_option linter.unusedVariables false
namespace Go.Proofs.YtjjkikghfmnikaaGreatDoor
open Go.ChangeShapes Go.WideShapes Go.ChangeAt Go.RowKit
/-- Six cells that may be written. -/
def Six (w : World) (g : Nat) : Prop := ∀ j, j < 6 → (∃ v, w.cell? ⟨g, j, none⟩ = some v) ∧ w.frozen? ⟨g, j, none⟩ = false
theorem Six.below {w w' : World} {g B : Nat} (h : Six w g) (hb : Below B w w') (hg : g < B) : Six w' g := fun j hj => by
  obtain ⟨⟨v, hv⟩, hf⟩ := h j hj
  exact ⟨⟨v, (hb.cell (p := ⟨g, j, none⟩) hg).trans hv⟩, (hb.frozen (p := ⟨g, j, none⟩) hg).trans hf⟩
theorem Six.alloc (w : World) (T : TypeId) (v0 v1 v2 v3 v4 v5 : Value) : Six (w.alloc (.cells #[v0, v1, v2, v3, v4, v5] T)) w.heap.size := fun j hj => by
  refine ⟨?_, by simp [go_sem]⟩
  rw [World.cell?_alloc_at _ _ _ _ rfl]
  exact Option.isSome_iff_exists.1 (old6 j hj _ _ _ _ _ _)
theorem Six.some {w : World} {g : Nat} (h : Six w g) : ∀ j, j < 6 → (w.cell? ⟨g, j, none⟩).isSome = true := fun j hj => by
  obtain ⟨⟨v, hv⟩, _⟩ := h j hj
  rw [hv]; rfl
theorem rDecode_no (x : Int) (h : 32767 < x) (e : Bool) (w : World) :
    Calls Tryz.prog 48 #[.int .u16 x, .bool e] w fun e w' => e = .returned (.tuple #[.agg #[.int .u8 0, .string ⟨#[]⟩, .bool false, .int .u8 0, .int .i64 0, .int .i64 0], .int .i64 0, .int .i64 3]) ∧ Below w.heap.size w w' := by
  go_enter Tryz.func48, Tryz.ntmps48
  go_wp2
  exact ret_struct3 Tryz.results48 Tryz.underlying41 [.int .u8 0, .string ⟨#[]⟩, .bool false, .int .u8 0, .int .i64 0, .int .i64 0] (by kernel_rfl) w.heap.size rfl (at_alloc [.int .u8 0, .string ⟨#[]⟩, .bool false, .int .u8 0, .int .i64 0, .int .i64 0]) (.int .i64 0) (.int .i64 3) rfl rfl rfl ⟨rfl, (Below.refl _ _).alloc (Nat.le_refl _) _⟩
set_option maxHeartbeats 2000000 in
theorem rDecode_yes (x : Int) (x0 : 0 ≤ x) (x1 : x ≤ 32767) (ex : Bool) (i : Nat) (hi : decI x ex = i) (w : World) :
    Calls Tryz.prog 48 #[.int .u16 x, .bool ex] w fun e w' => e = .returned (.tuple #[.agg #[.int .u8 ((i : Int) + 1), .string (nm i), .bool (decide (19 ≤ i)), .int .u8 (kd i), .int .i64 (bt (kd i)), .int .i64 (cy i)], .int .i64 (x - bs i), .int .i64 0]) ∧ Below w.heap.size w w' := by
  have h39 : i < 39 := by rw [← hi]; exact decI_lt x ex
  have HX := Lib.hid (show decide (19 ≤ i) = ex by rw [← hi]; exact decI_ext x ex)
  have HO := Lib.hid (show encOk i (x - bs i) by rw [← hi]; exact dec_ok x x0 x1 ex)
  have HD := Lib.hid hi
  clear hi
  go_enter Tryz.func48, Tryz.ntmps48
  go_wp2_with (go_at_call 84; refine (rbases_any _).mono ?_; rintro e w1 ⟨g1, c1, rfl, hg1, hg2, hcell1, hb1⟩)
  have HC1 := Lib.hid hcell1
  have X1 := Lib.hid (((Below.refl w.heap.size w).alloc (Nat.le_refl _) _).trans (hb1.mono (by simp)))
  have hz1 : w.heap.size < w1.heap.size := by have := hb1.size; simp at this; omega
  have R1 := Lib.hid ((Six.alloc w 41 _ _ _ _ _ _).below hb1 (by simp))
  clear hcell1 hb1
  go_loopw [8] (fun j wr => ∃ k : Nat, k ≤ i ∧ j = .int .i64 k ∧ Below w1.heap.size w1 wr) (fun j _ => i - (intOf j).toNat)
  case atStart => exact ⟨0, Nat.zero_le _, rfl, Below.refl _ _⟩
  case round =>
    obtain ⟨k, hk, rfl, hb⟩ := hrel
    have XB := Lib.hid hb
    have hz := hb.size
    have hk39 : k < 39 := by omega
    have hg3 : g1 < wr.heap.size := by omega
    have bk := bs_bd k hk39
    have cell1 : wr.cell? ⟨g1, k, none⟩ = some (.int .i64 (bs k)) := (hb.cell (p := ⟨g1, k, none⟩) hg2).trans (HC1.out k hk39)
    have e0 : IntKind.i64.wrap x = x := IntWalk.i64_in _ (by omega)
    have e1 : IntKind.i64.wrap (x - bs k) = x - bs k := IntWalk.i64_in _ (by omega)
    clear hb
    by_cases hlt : k < i
    · by_cases he : decide (19 ≤ k) = ex
      · have hno : ¬ encOk k (x - bs k) := fun c => by
          have := dec_one hk39 he c
          rw [HD.out] at this; omega
        have E3 : encE k (x - bs k) = 3 := (enc_no hno).2.symm
        have HE := Lib.hid he
        have hee : (decide (19 ≤ k) == ex) = true := by rw [beq_iff_eq]; exact he
        clear he hno
        go_wp2_with (go_at_call 85; refine (rOf_yes _ k (by omega) (by omega) _).mono ?_; rintro e w2 ⟨rfl, hb2⟩; (obtain ⟨hk1, hk2⟩ := bcell hb2); (have X2 := Lib.hid (XB.out.trans (hb2.mono XB.out.size))); (have hz2 := hb2.size); (have hg4 : g1 < w2.heap.size := by omega); clear hb2)
        go_region_with (go_at_call 86; refine (rEncode_yes _ _ _ _ _ _ k (by omega) (by omega) (x - bs k) (by omega) (by omega) _).mono ?_; rintro e w3 ⟨rfl, hb3⟩; (replace hb3 := from_drew hb3); (obtain ⟨hn1, hn2⟩ := bcell hb3); (have X3 := Lib.hid ((X2.out.alloc X2.out.size _).trans (hb3.mono (by have := X2.out.size; simp; omega)))); (have hz3 : w2.heap.size < w3.heap.size := by have := hb3.size; simp at this; omega); clear hb3)
        all_goals
          go_wp2
          exact ⟨⟨k + 1, by omega, by go_num, X3.out⟩, by simp [intOf]; omega⟩
      · have hee : (decide (19 ≤ k) == ex) = false := by rw [beq_eq_false_iff_ne]; exact he
        clear he
        go_wp2_with (go_at_call 85; refine (rOf_yes _ k (by omega) (by omega) _).mono ?_; rintro e w2 ⟨rfl, hb2⟩; (obtain ⟨hk1, hk2⟩ := bcell hb2); (have X2 := Lib.hid (XB.out.trans (hb2.mono XB.out.size))); (have hz2 := hb2.size); (have hg4 : g1 < w2.heap.size := by omega); clear hb2)
        go_region_with (go_at_call 86; refine (rEncode_yes _ _ _ _ _ _ k (by omega) (by omega) (x - bs k) (by omega) (by omega) _).mono ?_; rintro e w3 ⟨rfl, hb3⟩; (replace hb3 := from_drew hb3); (obtain ⟨hn1, hn2⟩ := bcell hb3); (have X3 := Lib.hid ((X2.out.alloc X2.out.size _).trans (hb3.mono (by have := X2.out.size; simp; omega)))); (have hz3 : w2.heap.size < w3.heap.size := by have := hb3.size; simp at this; omega); clear hb3)
        all_goals
          go_wp2
          exact ⟨⟨k + 1, by omega, by go_num, X3.out⟩, by simp [intOf]; omega⟩
    · have e : k = i := by omega
      subst e
      have E0 : encE k (x - bs k) = 0 := (enc_yes HO.out).2.symm
      have E1 : encW k (x - bs k) = x := by have := (enc_yes HO.out).1; omega
      have hee : (decide (19 ≤ k) == ex) = true := by rw [beq_iff_eq]; exact HX.out
      go_wp2_with (go_at_call 85; refine (rOf_yes _ k (by omega) (by omega) _).mono ?_; rintro e w2 ⟨rfl, hb2⟩; (obtain ⟨hk1, hk2⟩ := bcell hb2); (have X2 := Lib.hid (XB.out.trans (hb2.mono XB.out.size))); (have hz2 := hb2.size); (have hg4 : g1 < w2.heap.size := by omega); clear hb2)
      go_region_with (go_at_call 86; refine (rEncode_yes _ _ _ _ _ _ k (by omega) (by omega) (x - bs k) (by omega) (by omega) _).mono ?_; rintro e w3 ⟨rfl, hb3⟩; (replace hb3 := from_drew hb3); (obtain ⟨hn1, hn2⟩ := bcell hb3); (have X3 := Lib.hid ((X2.out.alloc X2.out.size _).trans (hb3.mono (by have := X2.out.size; simp; omega)))); (have hz3 : w2.heap.size < w3.heap.size := by have := hb3.size; simp at this; omega); clear hb3)
      all_goals
        have R3 := R1.out.below X3.out hz1
        obtain ⟨⟨r0, hr0⟩, hf0⟩ := R3 0 (by omega)
        obtain ⟨⟨r1, hr1⟩, hf1⟩ := R3 1 (by omega)
        obtain ⟨⟨r2, hr2⟩, hf2⟩ := R3 2 (by omega)
        obtain ⟨⟨r3, hr3⟩, hf3⟩ := R3 3 (by omega)
        obtain ⟨⟨r4, hr4⟩, hf4⟩ := R3 4 (by omega)
        obtain ⟨⟨r5, hr5⟩, hf5⟩ := R3 5 (by omega)
        have R3' := Lib.hid R3
        have R3s := Lib.hid (R3'.out.some)
        clear R3
        have hne : w.heap.size ≠ g1 := by simp at hg1; omega
        have hne2 : w.heap.size ≠ w2.heap.size := by omega
        go_wp2
        go_region_with fail
        all_goals
          go_wp2
          simp only [Act.put, List.getElem_toArray, List.getElem_cons_succ, List.getElem_cons_zero]
          have HC6 := set6d (w := w3) (g := w.heap.size) R3s.out (.int .u8 ((k : Int) + 1)) (.string (nm k)) (.bool (decide (19 ≤ k))) (.int .u8 (kd k)) (.int .i64 (bt (kd k))) (.int .i64 (cy k))
          have HB6 := (below6 (g := w.heap.size) (X1.out.trans (X3.out.mono X1.out.size)) (Nat.le_refl _) (.int .u8 ((k : Int) + 1)) (.string (nm k)) (.bool (decide (19 ≤ k))) (.int .u8 (kd k)) (.int .i64 (bt (kd k))) (.int .i64 (cy k))).drew
          exact ret_struct3 Tryz.results48 Tryz.underlying41 [.int .u8 ((k : Int) + 1), .string (nm k), .bool (decide (19 ≤ k)), .int .u8 (kd k), .int .i64 (bt (kd k)), .int .i64 (cy k)] (by kernel_rfl) w.heap.size rfl HC6 (.int .i64 (x - bs k)) (.int .i64 0) rfl rfl rfl ⟨rfl, HB6⟩
end Go.Proofs.YtjjkikghfmnikaaGreatDoor
