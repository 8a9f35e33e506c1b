/- Contracts of layer 4: the reference's Find. -/
import Derived.Test.YtjjkikghfmnikaaGreatDoorQ12
import Derived.Test.YtjjkikghfmnikaaGreatDoorChecked
import Derived.Test.YtjjkikghfmnikaaGreatDoorQ06
import Derived.Test.YtjjkikghfmnikaaGreatDoorQ03
import Derived.Deep.RegionLaw
import Derived.Deep.RegionWith
set_option linter.unusedSimpArgs false
set_option linter.unusedVariables false
namespace Go.Proofs.YtjjkikghfmnikaaGreatDoor
open Go.ChangeShapes Go.WideShapes Go.ChangeAt Go.RowKit
theorem txt_ne {a b : ByteArray} (h : a ≠ b) : (a.toList == b.toList) = false := by
  rw [beq_eq_false_iff_ne]; intro c; exact h ((toList_inj' a b).1 c)
theorem txt_eq {a b : ByteArray} (h : a = b) : (a.toList == b.toList) = true := by rw [h]; simp
end Go.Proofs.YtjjkikghfmnikaaGreatDoor

/- Contracts of layer 4: the program's tables. -/
set_option linter.unusedSimpArgs false
set_option linter.unusedVariables false
namespace Go.Proofs.YtjjkikghfmnikaaGreatDoor
open Go.ChangeShapes Go.WideShapes Go.ChangeAt Go.RowKit
theorem formOf_any (c : Int) (i : Nat) (hi : i < 39) (hc : c - 1 = i) (w : World) (hL : Lay w) :
    Calls Tryz.prog 134 #[.int .u8 c] w fun e w' => e = .returned (.agg #[.string (nm i), .bool (decide (19 ≤ i)), .int .u8 (kd i), .int .i64 (bs i), .int .i64 (cy i)]) ∧ Below w.heap.size w w' := by
  obtain ⟨f0, f1, f2, f3, f4⟩ := hL.f i hi
  have hsf := hL.sf
  have ei : IntKind.u8.wrap (c - 1) = (i : Int) := by rw [← hc]; exact IntWalk.u8_in _ (by omega)
  clear hL
  go_enter Tryz.func134, Tryz.ntmps134
  go_wp2
  exact ret_struct1 Tryz.results134 Tryz.underlying123 [.string (nm i), .bool (decide (19 ≤ i)), .int .u8 (kd i), .int .i64 (bs i), .int .i64 (cy i)] (by kernel_rfl) w.heap.size rfl (at_alloc [.string (nm i), .bool (decide (19 ≤ i)), .int .u8 (kd i), .int .i64 (bs i), .int .i64 (cy i)]) rfl ⟨rfl, (Below.refl _ _).alloc (Nat.le_refl _) _⟩
theorem exists_any (c : Int) (h0 : 0 ≤ c) (h1 : c ≤ 255) (t : Bool) (ht : (c != 0 && decide (c ≤ 39)) = t) (w : World) :
    Calls Tryz.prog 133 #[.int .u8 c] w fun e w' => e = .returned (.bool t) ∧ w = w' := by
  have HT := Lib.hid ht
  clear ht
  go_enter Tryz.func133, Tryz.ntmps133
  go_wp2
  all_goals
    go_ret
    exact ⟨by rw [← HT.out]; first | rfl | simp [*], rfl⟩
theorem exists_yes (c : Int) (h0 : 1 ≤ c) (h1 : c ≤ 39) (w : World) :
    Calls Tryz.prog 133 #[.int .u8 c] w fun e w' => e = .returned (.bool true) ∧ w = w' :=
  exists_any c (by omega) (by omega) true (by rw [Bool.and_eq_true, bne_iff_ne, decide_eq_true_iff]; omega) w
theorem exists_no (c : Int) (h0 : 0 ≤ c) (h1 : c ≤ 255) (h : ¬ (1 ≤ c ∧ c ≤ 39)) (w : World) :
    Calls Tryz.prog 133 #[.int .u8 c] w fun e w' => e = .returned (.bool false) ∧ w = w' :=
  exists_any c h0 h1 false (by by_cases d : c = 0; (simp [d]); (rw [decide_eq_false (show ¬ c ≤ 39 by omega), Bool.and_false])) w
theorem reserved_any (c : Int) (i : Nat) (hi : i < 39) (hc : c - 1 = i) (k : Int) (t : Bool) (ht : decide (rsv i k) = t) (w : World) :
    Calls Tryz.prog 142 #[.int .u8 c, .int .i64 k] w fun e w' => e = .returned (.bool t) ∧ w = w' := by
  by_cases d : c = 1
  · subst d
    have e0 : i = 0 := by omega
    subst e0
    have HT := Lib.hid (show ((k == 3) || (k == 4) || (k == 6)) = t by rw [← ht]; unfold rsv; by_cases a : k = 3 <;> by_cases b : k = 4 <;> by_cases c : k = 6 <;> simp [a, b, c])
    clear ht
    go_enter Tryz.func142, Tryz.ntmps142
    go_wp2
    all_goals
      go_ret
      exact ⟨by rw [← HT.out]; first | rfl | simp [*], rfl⟩
  by_cases d2 : c = 13
  · subst d2
    have e0 : i = 12 := by omega
    subst e0
    have HT := Lib.hid (show (k == 15) = t by rw [← ht]; unfold rsv; by_cases a : k = 15 <;> simp [a])
    clear ht
    go_enter Tryz.func142, Tryz.ntmps142
    go_wp2
    all_goals
      go_ret
      exact ⟨by rw [← HT.out]; first | rfl | simp [*], rfl⟩
  have HT := Lib.hid (show false = t by rw [← ht, decide_eq_false (show ¬ rsv i k by unfold rsv; omega)])
  clear ht
  go_enter Tryz.func142, Tryz.ntmps142
  go_wp2
  all_goals
    go_ret
    exact ⟨by rw [← HT.out]; first | rfl | simp [*], rfl⟩
theorem size6 {w : World} {g : Nat} (v0 v1 v2 v3 v4 v5 : Value) : ((((((w.setCell ⟨g, 0, none⟩ v0).setCell ⟨g, 1, none⟩ v1).setCell ⟨g, 2, none⟩ v2).setCell ⟨g, 3, none⟩ v3).setCell ⟨g, 4, none⟩ v4).setCell ⟨g, 5, none⟩ v5).heap.size = w.heap.size := by simp
theorem below6a {w w3 : World} {g : Nat} (h : Below w.heap.size w w3) (hg : w.heap.size ≤ g) (v0 v1 v2 v3 v4 v5 : Value) (o : Obj) : Below w.heap.size w ((((((((w3.setCell ⟨g, 0, none⟩ v0).setCell ⟨g, 1, none⟩ v1).setCell ⟨g, 2, none⟩ v2).setCell ⟨g, 3, none⟩ v3).setCell ⟨g, 4, none⟩ v4).setCell ⟨g, 5, none⟩ v5).alloc o).drew) :=
  ((below6 h hg v0 v1 v2 v3 v4 v5).alloc (by rw [size6]; exact h.size) o).drew
theorem set6ad {w : World} {g : Nat} (h : ∀ j, j < 6 → (w.cell? ⟨g, j, none⟩).isSome = true) (hg : g < w.heap.size) (v0 v1 v2 v3 v4 v5 : Value) (o : Obj) :
    ∀ j v, [v0, v1, v2, v3, v4, v5][j]? = some v → (((((((w.setCell ⟨g, 0, none⟩ v0).setCell ⟨g, 1, none⟩ v1).setCell ⟨g, 2, none⟩ v2).setCell ⟨g, 3, none⟩ v3).setCell ⟨g, 4, none⟩ v4).setCell ⟨g, 5, none⟩ v5).alloc o).drew.cell? ⟨g, j, none⟩ = some v := by
  intro j v hj
  rw [cell_drew, ((Below.refl _ _).alloc (Nat.le_refl _) o).cell (p := ⟨g, j, none⟩) (by rw [size6]; exact hg)]
  exact set6 h v0 v1 v2 v3 v4 v5 j v hj
set_option maxHeartbeats 1000000 in
theorem opOf_any (c : Int) (i : Nat) (hi : i < 39) (hc : c - 1 = i) (w : World) (hL : Lay w) :
    Calls Tryz.prog 82 #[.int .u8 c] w fun e w' => e = .returned (.agg #[.int .u8 c, .string (nm i), .bool (decide (19 ≤ i)), .int .u8 (kd i), .int .i64 (bt (kd i)), .int .i64 (cy i)]) ∧ Below w.heap.size w w' := by
  have hk := kd_bd i hi
  have HL := Lib.hid hL
  clear hL
  go_enter Tryz.func82, Tryz.ntmps82
  go_wp2_with (go_at_call 134; refine (formOf_any c i hi hc _ (HL.out.alloc _)).mono ?_; rintro e w1 ⟨rfl, hb⟩; (obtain ⟨hk0, hk1, hk2⟩ := ((HL.out.alloc _).below hb).k (kd i) hk.1 (by omega)); (have hs1 := ((HL.out.alloc _).below hb).sk); (have hz1 : w.heap.size < w1.heap.size := by have := hb.size; simp at this; omega); (have R2 := (Six.alloc w 41 _ _ _ _ _ _).below hb (by simp)); (obtain ⟨⟨r0, hr0⟩, hf0⟩ := R2 0 (by omega)); (obtain ⟨⟨r1, hr1⟩, hf1⟩ := R2 1 (by omega)); (obtain ⟨⟨r2, hr2⟩, hf2⟩ := R2 2 (by omega)); (obtain ⟨⟨r3, hr3⟩, hf3⟩ := R2 3 (by omega)); (obtain ⟨⟨r4, hr4⟩, hf4⟩ := R2 4 (by omega)); (obtain ⟨⟨r5, hr5⟩, hf5⟩ := R2 5 (by omega)); (have R2s := Lib.hid R2); (have X1 := Lib.hid (((Below.refl w.heap.size w).alloc (Nat.le_refl _) _).trans (hb.mono (by simp)))); clear R2 hb)
  have hk5 : kd i < 5 := by omega
  go_region
  rename_i K hK
  refine hK _ _ (wp_ret ?_)
  clear hK
  have HC6 := set6ad (w := w1) (g := w.heap.size) R2s.out.some hz1 (.int .u8 c) (.string (nm i)) (.bool (decide (19 ≤ i))) (.int .u8 (kd i)) (.int .i64 (bt (kd i))) (.int .i64 (cy i)) (.cells #[.string (nm i), .bool (decide (19 ≤ i)), .int .u8 (kd i), .int .i64 (bs i), .int .i64 (cy i)] 123)
  have HB6 := below6a (g := w.heap.size) X1.out (Nat.le_refl _) (.int .u8 c) (.string (nm i)) (.bool (decide (19 ≤ i))) (.int .u8 (kd i)) (.int .i64 (bt (kd i))) (.int .i64 (cy i)) (.cells #[.string (nm i), .bool (decide (19 ≤ i)), .int .u8 (kd i), .int .i64 (bs i), .int .i64 (cy i)] 123)
  show bodyPost _ _ _ .ret _ _
  exact ret_struct1 Tryz.results82 Tryz.underlying41 [.int .u8 c, .string (nm i), .bool (decide (19 ≤ i)), .int .u8 (kd i), .int .i64 (bt (kd i)), .int .i64 (cy i)] (by kernel_rfl) w.heap.size rfl HC6 rfl ⟨rfl, HB6⟩
set_option maxHeartbeats 1000000 in
theorem encodes_any (c : Int) (i : Nat) (h39 : i < 39) (hc : c - 1 = i) (k : Int) (t : Bool) (ht : decide (encOk i k) = t) (w : World) (hL : Lay w) :
    Calls Tryz.prog 81 #[.int .u8 c, .int .i64 k] w fun e w' => e = .returned (.bool t) ∧ Below w.heap.size w w' := by
  have hk := kd_bd i h39
  have HL := Lib.hid hL
  clear hL
  obtain ⟨r, hr⟩ : ∃ r, decide (rsv i k) = r := ⟨_, rfl⟩
  have HR := Lib.hid hr
  have HT := Lib.hid (show (decide (lo (kd i) ≤ k) && decide (k ≤ hi (kd i)) && !r) = t by
    rw [← ht, ← hr]; unfold encOk
    by_cases a : lo (kd i) ≤ k <;> by_cases b : k ≤ hi (kd i) <;> by_cases c : rsv i k <;> simp [a, b, c])
  clear ht hr
  have hk5 : kd i < 5 := by omega
  have fd : ∀ w : World, (Instr.field 123 (.agg #[.string (nm i), .bool (decide (19 ≤ i)), .int .u8 (kd i), .int .i64 (bs i), .int .i64 (cy i)]) 2).run Tryz.prog w = .ok (.int .u8 (kd i)) w := fun _ => by kernel_rfl
  go_enter Tryz.func81, Tryz.ntmps81
  go_wp2_with (first
    | (go_at_call 134; refine (formOf_any c i h39 hc _ HL.out).mono ?_; rintro e w1 ⟨rfl, hb⟩; (obtain ⟨hk0, hk1, hk2⟩ := (HL.out.below hb).k (kd i) hk.1 (by omega)); (have hs1 := (HL.out.below hb).sk); (have X1 := Lib.hid hb); clear hb)
    | (go_at_call 142; refine (reserved_any c i h39 hc k r HR.out _).mono ?_; rintro e w2 ⟨rfl, rfl⟩))
  all_goals
    go_ret
    exact ⟨by rw [← HT.out]; first | rfl | (simp [*]; done) | (simp [*]; intros; exfalso; omega), X1.out.alloc X1.out.size _⟩
end Go.Proofs.YtjjkikghfmnikaaGreatDoor

/- Contracts of layer 4: the program's Of, Range and Encode. -/
set_option linter.unusedSimpArgs false
set_option linter.unusedVariables false
namespace Go.Proofs.YtjjkikghfmnikaaGreatDoor
open Go.ChangeShapes Go.WideShapes Go.ChangeAt Go.RowKit
set_option maxHeartbeats 1000000 in
theorem Of_yes (c : Int) (i : Nat) (hi : i < 39) (hc : c - 1 = i) (w : World) (hL : Lay w) :
    Calls Tryz.prog 131 #[.int .u8 c] w (fun e w' => e = .returned (.tuple #[.agg #[.int .u8 c, .string (nm i), .bool (decide (19 ≤ i)), .int .u8 (kd i), .int .i64 (bt (kd i)), .int .i64 (cy i)], .int .i64 0]) ∧ Below w.heap.size w w') := by
  have HL := Lib.hid hL
  clear hL
  have HC := Lib.hid (show 1 ≤ c ∧ c ≤ 39 by omega)
  go_enter Tryz.func131, Tryz.ntmps131
  go_wp2_with (first
    | (go_at_call 133; refine (exists_yes c HC.out.1 HC.out.2 _).mono ?_; rintro e w0 ⟨rfl, rfl⟩)
    | (go_at_call 82; refine (opOf_any c i hi hc _ (HL.out.alloc _)).mono ?_; rintro e w1 ⟨rfl, hb⟩; (have R2 := (Six.alloc w 41 _ _ _ _ _ _).below hb (by simp)); (obtain ⟨⟨r0, hr0⟩, hf0⟩ := R2 0 (by omega)); (obtain ⟨⟨r1, hr1⟩, hf1⟩ := R2 1 (by omega)); (obtain ⟨⟨r2, hr2⟩, hf2⟩ := R2 2 (by omega)); (obtain ⟨⟨r3, hr3⟩, hf3⟩ := R2 3 (by omega)); (obtain ⟨⟨r4, hr4⟩, hf4⟩ := R2 4 (by omega)); (obtain ⟨⟨r5, hr5⟩, hf5⟩ := R2 5 (by omega)); (have R2s := Lib.hid R2); (have X1 := Lib.hid (((Below.refl w.heap.size w).alloc (Nat.le_refl _) _).trans (hb.mono (by simp)))); clear R2 hb))
  have HC6 := set6 (w := w1) (g := w.heap.size) R2s.out.some (.int .u8 c) (.string (nm i)) (.bool (decide (19 ≤ i))) (.int .u8 (kd i)) (.int .i64 (bt (kd i))) (.int .i64 (cy i))
  have HB6 := below6 (g := w.heap.size) X1.out (Nat.le_refl _) (.int .u8 c) (.string (nm i)) (.bool (decide (19 ≤ i))) (.int .u8 (kd i)) (.int .i64 (bt (kd i))) (.int .i64 (cy i))
  exact ret_struct2 Tryz.results131 Tryz.underlying41 [.int .u8 c, .string (nm i), .bool (decide (19 ≤ i)), .int .u8 (kd i), .int .i64 (bt (kd i)), .int .i64 (cy i)] (by kernel_rfl) w.heap.size rfl HC6 (.int .i64 0) rfl rfl ⟨rfl, HB6⟩
theorem Of_no (c : Int) (h : ¬ (1 ≤ c ∧ c ≤ 39)) (c0 : 0 ≤ c) (c1 : c ≤ 255) (w : World) :
    Calls Tryz.prog 131 #[.int .u8 c] w (fun e w' => e = .returned (.tuple #[.agg #[.int .u8 0, .string ⟨#[]⟩, .bool false, .int .u8 0, .int .i64 0, .int .i64 0], .int .i64 7]) ∧ Below w.heap.size w w') := by
  have H := Lib.hid h
  clear h
  go_enter Tryz.func131, Tryz.ntmps131
  go_wp2_with (go_at_call 133; refine (exists_no c c0 c1 H.out _).mono ?_; rintro e w0 ⟨rfl, rfl⟩)
  exact ret_struct2 Tryz.results131 Tryz.underlying41 [.int .u8 0, .string ⟨#[]⟩, .bool false, .int .u8 0, .int .i64 0, .int .i64 0] (by kernel_rfl) w.heap.size rfl (at_alloc [.int .u8 0, .string ⟨#[]⟩, .bool false, .int .u8 0, .int .i64 0, .int .i64 0]) (.int .i64 7) rfl rfl ⟨rfl, (Below.refl _ _).alloc (Nat.le_refl _) _⟩
theorem kd_255 (i : Nat) (h : i < 39) : 0 ≤ kd i ∧ kd i ≤ 255 := by have := kd_bd i h; omega
set_option maxHeartbeats 1000000 in
theorem Encode_no (c0 : Int) (s : ByteArray) (b : Bool) (q x y : Int) (h : ¬ (1 ≤ c0 ∧ c0 ≤ 39)) (h0 : 0 ≤ c0) (h1 : c0 ≤ 255) (k : Int) (k0 : -9223372036854775808 ≤ k) (k1 : k ≤ 9223372036854775807) (w : World) :
    Calls Tryz.prog 62 #[.agg #[.int .u8 c0, .string s, .bool b, .int .u8 q, .int .i64 x, .int .i64 y], .int .i64 k] w (fun e w' => e = .returned (.tuple #[.int .u16 0, .int .i64 7]) ∧ Below w.heap.size w w') := by
  have H := Lib.hid h
  clear h
  go_enter Tryz.func62, Tryz.ntmps62
  go_wp2_with (go_at_call 133; refine (exists_no c0 h0 h1 H.out _).mono ?_; rintro e w0 ⟨rfl, rfl⟩)
  go_ret2
  exact ⟨rfl, (Below.refl _ _).alloc (Nat.le_refl _) _⟩
set_option maxHeartbeats 1000000 in
theorem Encode_yes (c0 : Int) (s : ByteArray) (b : Bool) (q x y : Int) (i : Nat) (h39 : i < 39) (hc : c0 - 1 = i) (k : Int) (k0 : -9223372036854775808 ≤ k) (k1 : k ≤ 9223372036854775807) (w : World) (hL : Lay w) :
    Calls Tryz.prog 62 #[.agg #[.int .u8 c0, .string s, .bool b, .int .u8 q, .int .i64 x, .int .i64 y], .int .i64 k] w (fun e w' => e = .returned (.tuple #[.int .u16 (encW i k), .int .i64 (encE i k)]) ∧ Below w.heap.size w w') := by
  have HL := Lib.hid hL
  have HC := Lib.hid (show 1 ≤ c0 ∧ c0 ≤ 39 by omega)
  clear hL
  have hz0 : (w.alloc (.cells #[.int .u8 c0, .string s, .bool b, .int .u8 q, .int .i64 x, .int .i64 y] 41)).heap.size = w.heap.size + 1 := by simp
  have O0 : (w.alloc (.cells #[.int .u8 c0, .string s, .bool b, .int .u8 q, .int .i64 x, .int .i64 y] 41)).cell? ⟨w.heap.size, 0, none⟩ = some (.int .u8 c0) := by rw [World.cell?_alloc_at _ _ _ _ rfl]; rfl
  have B0 := Lib.hid ((Below.refl w.heap.size w).alloc (Nat.le_refl _) (.cells #[.int .u8 c0, .string s, .bool b, .int .u8 q, .int .i64 x, .int .i64 y] 41))
  have L0 := Lib.hid (HL.out.alloc (.cells #[.int .u8 c0, .string s, .bool b, .int .u8 q, .int .i64 x, .int .i64 y] 41))
  have fd : ∀ w : World, (Instr.field 123 (.agg #[.string (nm i), .bool (decide (19 ≤ i)), .int .u8 (kd i), .int .i64 (bs i), .int .i64 (cy i)]) 3).run Tryz.prog w = .ok (.int .i64 (bs i)) w := fun _ => by kernel_rfl
  by_cases d : encOk i k
  · have HT := Lib.hid (decide_eq_true d)
    have E := Lib.hid (enc_yes d)
    obtain ⟨d1, d2, d3⟩ := d
    have bsb := bs_hi i h39
    have bsb2 := bs_bd i h39
    have e3 : IntKind.i64.wrap (bs i + k) = bs i + k := IntWalk.i64_in _ (by omega)
    have e4 : IntKind.u16.wrap (bs i + k) = bs i + k := IntWalk.u16_in _ (by omega)
    clear d1 d2 d3 bsb bsb2
    go_enter Tryz.func62, Tryz.ntmps62
    go_wp2_with (first
      | (go_at_call 133; refine (exists_yes c0 HC.out.1 HC.out.2 _).mono ?_; rintro e w0 ⟨rfl, rfl⟩)
      | (go_at_call 81; refine (encodes_any c0 i h39 hc k true HT.out _ L0.out).mono ?_; rintro e w1 ⟨rfl, hb⟩; (have O1 := (hb.cell (p := ⟨w.heap.size, 0, none⟩) (by simp)).trans O0); (have hz1 : w.heap.size < w1.heap.size := by have := hb.size; simp at this; omega); (have L1 := Lib.hid (L0.out.below hb)); (have X1 := Lib.hid (B0.out.trans (hb.mono (by simp)))); clear hb)
      | (go_at_call 134; refine (formOf_any c0 i h39 hc _ L1.out).mono ?_; rintro e w2 ⟨rfl, hb⟩; (have X2 := Lib.hid (X1.out.trans (hb.mono X1.out.size))); clear hb))
    go_ret2
    exact ⟨ret_tup2 E.out.1 E.out.2, X2.out⟩
  · have HT := Lib.hid (decide_eq_false d)
    have E := Lib.hid (enc_no d)
    clear d
    go_enter Tryz.func62, Tryz.ntmps62
    go_wp2_with (first
      | (go_at_call 133; refine (exists_yes c0 HC.out.1 HC.out.2 _).mono ?_; rintro e w0 ⟨rfl, rfl⟩)
      | (go_at_call 81; refine (encodes_any c0 i h39 hc k false HT.out _ L0.out).mono ?_; rintro e w1 ⟨rfl, hb⟩; (have X1 := Lib.hid (B0.out.trans (hb.mono (by simp)))); clear hb))
    go_ret2
    exact ⟨ret_tup2 E.out.1 E.out.2, X1.out⟩
end Go.Proofs.YtjjkikghfmnikaaGreatDoor

/- Contracts of layer 4: the program's Decode. -/
set_option linter.unusedSimpArgs false
set_option linter.unusedVariables false
namespace Go.Proofs.YtjjkikghfmnikaaGreatDoor
open Go.ChangeShapes Go.WideShapes Go.ChangeAt Go.RowKit
theorem Decode_no (x : Int) (h : 32767 < x) (x1 : x ≤ 65535) (e : Bool) (w : World) :
    Calls Tryz.prog 45 #[.int .u16 x, .bool e] w (fun e w' => e = .returned (.tuple #[.agg #[.int .u8 0, .string ⟨#[]⟩, .bool false, .int .u8 0, .int .i64 0, .int .i64 0], .int .i64 0, .int .i64 3]) ∧ Below w.heap.size w w') := by
  go_enter Tryz.func45, Tryz.ntmps45
  go_wp2
  exact ret_struct3 Tryz.results45 Tryz.underlying41 [.int .u8 0, .string ⟨#[]⟩, .bool false, .int .u8 0, .int .i64 0, .int .i64 0] (by kernel_rfl) w.heap.size rfl (at_alloc [.int .u8 0, .string ⟨#[]⟩, .bool false, .int .u8 0, .int .i64 0, .int .i64 0]) (.int .i64 0) (.int .i64 3) rfl rfl rfl ⟨rfl, (Below.refl _ _).alloc (Nat.le_refl _) _⟩
set_option maxHeartbeats 2000000 in
theorem Decode_yes (x : Int) (x0 : 0 ≤ x) (x1 : x ≤ 32767) (ex : Bool) (i : Nat) (hi : decI x ex = i) (w : World) (hL : Lay w) :
    Calls Tryz.prog 45 #[.int .u16 x, .bool ex] w (fun e w' => e = .returned (.tuple #[.agg #[.int .u8 ((i : Int) + 1), .string (nm i), .bool (decide (19 ≤ i)), .int .u8 (kd i), .int .i64 (bt (kd i)), .int .i64 (cy i)], .int .i64 (x - bs i), .int .i64 0]) ∧ Below w.heap.size w w') := by
  have h39 : i < 39 := by rw [← hi]; exact decI_lt x ex
  have HX := Lib.hid (show decide (19 ≤ i) = ex by rw [← hi]; exact decI_ext x ex)
  have HO := Lib.hid (show encOk i (x - bs i) by rw [← hi]; exact dec_ok x x0 x1 ex)
  have HD := Lib.hid hi
  have HL := Lib.hid hL
  clear hi hL
  have R1 := Lib.hid (Six.alloc w 41 (.int .u8 0) (.string ⟨#[]⟩) (.bool false) (.int .u8 0) (.int .i64 0) (.int .i64 0))
  have X1 := Lib.hid ((Below.refl w.heap.size w).alloc (Nat.le_refl _) (.cells #[.int .u8 0, .string ⟨#[]⟩, .bool false, .int .u8 0, .int .i64 0, .int .i64 0] 41))
  have L1 := Lib.hid (HL.out.alloc (.cells #[.int .u8 0, .string ⟨#[]⟩, .bool false, .int .u8 0, .int .i64 0, .int .i64 0] 41))
  go_enter Tryz.func45, Tryz.ntmps45
  go_wp2
  have hz1 : w.heap.size < (w.alloc (.cells #[.int .u8 0, .string ⟨#[]⟩, .bool false, .int .u8 0, .int .i64 0, .int .i64 0] 41)).heap.size := by simp
  generalize (w.alloc (.cells #[.int .u8 0, .string ⟨#[]⟩, .bool false, .int .u8 0, .int .i64 0, .int .i64 0] 41)) = w1 at R1 X1 L1 hz1 ⊢
  go_loopw [13] (fun j wr => ∃ k : Nat, k ≤ i ∧ j = .int .i64 k ∧ Below w1.heap.size w1 wr) (fun j _ => i - (intOf j).toNat)
  case atStart => exact ⟨0, Nat.zero_le _, rfl, Below.refl _ _⟩
  case round =>
    obtain ⟨k, hk, rfl, hb⟩ := hrel
    have XB := Lib.hid hb
    have hz := hb.size
    have hk39 : k < 39 := by omega
    have bk := bs_bd k hk39
    have LB := Lib.hid (L1.out.below hb)
    obtain ⟨f0, f1, f2, f3, f4⟩ := LB.out.f k hk39
    have hsf := LB.out.sf
    have e0 : IntKind.i64.wrap x = x := IntWalk.i64_in _ (by omega)
    have e1 : IntKind.i64.wrap (x - bs k) = x - bs k := IntWalk.i64_in _ (by omega)
    have e2 : IntKind.u8.wrap ((k : Int) + 1) = (k : Int) + 1 := IntWalk.u8_in _ (by omega)
    clear hb
    by_cases hlt : k < i
    · by_cases he : decide (19 ≤ k) = ex
      · have HN := Lib.hid (decide_eq_false (show ¬ encOk k (x - bs k) from fun c => by
          have := dec_one hk39 he c
          rw [HD.out] at this; omega))
        have hee : (decide (19 ≤ k) == ex) = true := by rw [beq_iff_eq]; exact he
        clear he
        go_wp2_with (go_at_call 81; refine (encodes_any _ k hk39 (by omega) (x - bs k) false HN.out _ LB.out).mono ?_; rintro e w2 ⟨rfl, hb⟩; (have X2 := Lib.hid (XB.out.trans (hb.mono XB.out.size))); clear hb)
        exact ⟨⟨k + 1, by omega, by go_num, X2.out⟩, by simp [intOf]; omega⟩
      · have hee : (decide (19 ≤ k) == ex) = false := by rw [beq_eq_false_iff_ne]; exact he
        clear he
        go_wp2
        exact ⟨⟨k + 1, by omega, by go_num, XB.out⟩, by simp [intOf]; omega⟩
    · have e : k = i := by omega
      subst e
      have HN := Lib.hid (decide_eq_true HO.out)
      have hee : (decide (19 ≤ k) == ex) = true := by rw [beq_iff_eq]; exact HX.out
      go_wp2_with (first
        | (go_at_call 81; refine (encodes_any _ k hk39 (by omega) (x - bs k) true HN.out _ LB.out).mono ?_; rintro e w2 ⟨rfl, hb⟩; (have L2 := Lib.hid (LB.out.below hb)); (have X2 := Lib.hid (XB.out.trans (hb.mono XB.out.size))); (have hz2 := hb.size); clear hb)
        | (go_at_call 82; refine (opOf_any _ k hk39 (by omega) _ L2.out).mono ?_; rintro e w3 ⟨rfl, hb⟩; (have X3 := Lib.hid (X2.out.trans (hb.mono X2.out.size))); (have R2 := R1.out.below X3.out hz1); (obtain ⟨⟨r0, hr0⟩, hf0⟩ := R2 0 (by omega)); (obtain ⟨⟨r1, hr1⟩, hf1⟩ := R2 1 (by omega)); (obtain ⟨⟨r2, hr2⟩, hf2⟩ := R2 2 (by omega)); (obtain ⟨⟨r3, hr3⟩, hf3⟩ := R2 3 (by omega)); (obtain ⟨⟨r4, hr4⟩, hf4⟩ := R2 4 (by omega)); (obtain ⟨⟨r5, hr5⟩, hf5⟩ := R2 5 (by omega)); (have R2s := Lib.hid R2); clear R2 hb))
      have HC6 := set6 (w := w3) (g := w.heap.size) R2s.out.some (.int .u8 ((k : Int) + 1)) (.string (nm k)) (.bool (decide (19 ≤ k))) (.int .u8 (kd k)) (.int .i64 (bt (kd k))) (.int .i64 (cy k))
      have HB6 := below6 (g := w.heap.size) (X1.out.trans (X3.out.mono X1.out.size)) (Nat.le_refl _) (.int .u8 ((k : Int) + 1)) (.string (nm k)) (.bool (decide (19 ≤ k))) (.int .u8 (kd k)) (.int .i64 (bt (kd k))) (.int .i64 (cy k))
      exact ret_struct3 Tryz.results45 Tryz.underlying41 [.int .u8 ((k : Int) + 1), .string (nm k), .bool (decide (19 ≤ k)), .int .u8 (kd k), .int .i64 (bt (kd k)), .int .i64 (cy k)] (by kernel_rfl) w.heap.size rfl HC6 (.int .i64 (x - bs k)) (.int .i64 0) rfl rfl rfl ⟨rfl, HB6⟩
end Go.Proofs.YtjjkikghfmnikaaGreatDoor
