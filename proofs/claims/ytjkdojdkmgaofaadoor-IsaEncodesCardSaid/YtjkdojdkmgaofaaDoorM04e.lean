/- Contracts of layer 4: the program's Find. -/
import Derived.Test.YtjkdojdkmgaofaaDoorM04d
set_option linter.unusedSimpArgs false
set_option linter.unusedVariables false
namespace Go.Proofs.YtjkdojdkmgaofaaDoor
open Go.ChangeShapes Go.WideShapes Go.ChangeAt Go.RowKit Go.Maps Go.WideMaps
/-- What the map of the names holds after k rounds. -/
def tb : Nat → DataW Unit
  | 0 => .map []
  | k + 1 => (tb k).put (.string (nm k).data.toList) (.lit (.int .u8 ((k : Int) + 1)))
theorem tb_map : ∀ k, IsMap (tb k)
  | 0 => isMap_empty
  | k + 1 => (tb_map k).put _ _
theorem key_ne {a b : ByteArray} (h : a ≠ b) : Lit.string a.data.toList ≠ Lit.string b.data.toList := by
  intro e
  injection e with e
  apply h
  cases a; cases b
  rename_i x y
  congr 1
  exact Array.toList_inj.1 e
theorem tb_hit (z : DataW Unit) : ∀ k, k ≤ 39 → ∀ i, i < k → (tb k).atKey (.string (nm i).data.toList) z = .lit (.int .u8 ((i : Int) + 1))
  | 0, _, i, h => absurd h (Nat.not_lt_zero _)
  | k + 1, h, i, hi => by
    unfold tb
    by_cases e : i = k
    · subst e; exact atKey_put_same (tb_map _) (show WideAt.IsKeyLit (.string _) from trivial) _ _
    · rw [atKey_put_other (key_ne (fun c => e (nm_inj i (by omega) k (by omega) c)))]
      exact tb_hit z k (by omega) i (by omega)
theorem tb_miss (z : DataW Unit) (s : ByteArray) (hs : ∀ i, i < 39 → nm i ≠ s) : ∀ k, k ≤ 39 → (tb k).atKey (.string s.data.toList) z = z
  | 0, _ => rfl
  | k + 1, h => by
    unfold tb
    rw [atKey_put_other (key_ne (fun c => hs k (by omega) c.symm))]
    exact tb_miss z s hs k (by omega)
theorem nm_size : ∀ i, i < 39 → (nm i).size ≤ maxLen := by
  have h : ∀ i, i < 39 → (nm i).size ≤ 6 := by decide
  intro i hi
  have := h i hi
  unfold maxLen; omega
theorem key_law : Keyed Tryd.prog 9 := string_keyed Tryd.underlying9
theorem zero_op (w : World) : (zeroValue 22).run Tryd.prog w = .ok (.int .u8 0) w := by kernel_rfl
theorem wf_code : ∀ k : Nat, k < 39 → (Lit.int .u8 ((k : Int) + 1)).wf = true := by decide
set_option maxRecDepth 100000 in
set_option maxHeartbeats 1000000 in
theorem codes_any (w : World) (B : Nat) (hB : w.heap.size = B) (hL : Lay w) :
    Calls Tryd.prog 27 #[] w fun e w' => e = .returned (.map (some B)) ∧ w'.ownsMap Tryd.prog 9 (plainElem Tryd.prog 22) B 39 (tb 39) ∧ Below w.heap.size w w' := by
  subst hB
  have HL := Lib.hid hL
  clear hL
  have hmm : ∀ w : World, (Instr.makeMap 58 (some (.int .i64 39))).run Tryd.prog w = .ok (.map (some w.heap.size)) (w.alloc (.map #[] 0)) := fun w => by kernel_rfl
  go_enter Tryd.func27, Tryd.ntmps27
  go_wp2
  go_loopw [4] (fun j wr => ∃ k : Nat, k ≤ 39 ∧ j = .int .i64 k ∧ wr.ownsMap Tryd.prog 9 (plainElem Tryd.prog 22) w.heap.size k (tb k) ∧ Below w.heap.size w wr) (fun j _ => 39 - (intOf j).toNat)
  case atStart => exact ⟨0, Nat.zero_le _, rfl, World.ownsMap_made _ _ _ _, (Below.refl _ _).alloc (Nat.le_refl _) _⟩
  case round =>
    obtain ⟨k, hk, rfl, hown, hb⟩ := hrel
    have XB := Lib.hid hb
    have HO := Lib.hid hown
    clear hown
    by_cases hlt : k < 39
    · have LB := HL.out.below hb
      obtain ⟨f0, f1, f2, f3, f4⟩ := LB.f k hlt
      have hsf := LB.sf
      have e2 : IntKind.u8.wrap ((k : Int) + 1) = (k : Int) + 1 := IntWalk.u8_in _ (by omega)
      have hkey := Lib.hid (keyOf_string_mk (s := nm k) Tryd.underlying9 (nm_size k hlt))
      have HW := Lib.hid (wf_code k hlt)
      clear LB f1 f2 f3 f4 hb
      go_wp2_with (at_mapUpdate; refine wpList_mapUpdate_own _ rfl _ _ _ 58 rfl 9 22 key_law Tryd.underlying58 _ w.heap.size k _ rfl HO.out (by unfold maxLen; omega) _ _ _ rfl rfl hkey.out _ [] (plainElem_int Tryd.underlying22 HW.out) ?_; intro w1 hown1 hgrow1)
      exact ⟨⟨k + 1, by omega, by go_num, hown1, XB.out.grown hgrow1 XB.out.size (fun j hj => by cases hj; exact Nat.le_refl _)⟩, by simp [intOf]; omega⟩
    · have e : k = 39 := by omega
      subst e
      clear hb
      go_wp2
      go_ret
      exact ⟨rfl, HO.out, XB.out⟩
theorem fine39 (i : Nat) (h : i < 39) : 1 ≤ (i : Int) + 1 ∧ (i : Int) + 1 ≤ 39 := by omega
set_option maxHeartbeats 1000000 in
theorem Find_hit (s : ByteArray) (i : Nat) (h39 : i < 39) (hs : nm i = s) (w : World) (hL : Lay w) :
    Calls Tryd.prog 14 #[.string s] w (fun e w' => e = .returned (.tuple #[.agg #[.int .u8 ((i : Int) + 1), .string (nm i), .bool (decide (19 ≤ i)), .int .u8 (kd i), .int .i64 (bt (kd i)), .int .i64 (cy i)], .int .i64 0]) ∧ Below w.heap.size w w') := by
  have HL := Lib.hid hL
  have HK := Lib.hid (keyOf_string_mk (s := s) Tryd.underlying9 (by rw [← hs]; exact nm_size i h39))
  have HS := Lib.hid hs
  clear hL hs
  go_enter Tryd.func14, Tryd.ntmps14
  go_wp2_with (first
    | (go_at_call 27; refine (codes_any _ (w.heap.size + 1) (by simp) (HL.out.alloc _)).mono ?_; rintro e w1 ⟨rfl, hown, hb⟩; (have HO := Lib.hid hown); (have Y1 := Lib.hid hb); (have L1 := Lib.hid ((HL.out.alloc _).below hb)); (have X1 := Lib.hid (((Below.refl w.heap.size w).alloc (Nat.le_refl _) _).trans (hb.mono (by simp)))); clear hown hb)
    | (at_lookup; refine wpList_lookup_own_int _ rfl _ _ 58 rfl 9 22 .u8 key_law Tryd.underlying58 Tryd.underlying22 (zero_op _) (w.heap.size + 1) 39 _ rfl HO.out _ _ rfl HK.out ?_; intro c hat hwc; (rw [← HS.out, tb_hit _ 39 (Nat.le_refl _) i h39] at hat); (have hc : (i : Int) + 1 = c := by injection hat with h1; injection h1); (subst hc); clear hat hwc)
    | (go_at_call 16; refine (Of_yes _ i h39 (by omega) _ L1.out).mono ?_; rintro e w2 ⟨rfl, hb⟩; (have R2 := ((Six.alloc w 28 _ _ _ _ _ _).below Y1.out (by simp)).below hb (by have := Y1.out.size; simp at this; omega)); (obtain ⟨⟨r0, hr0⟩, hf0⟩ := R2 0 (by omega)); (obtain ⟨⟨r1, hr1⟩, hf1⟩ := R2 1 (by omega)); (obtain ⟨⟨r2, hr2⟩, hf2⟩ := R2 2 (by omega)); (obtain ⟨⟨r3, hr3⟩, hf3⟩ := R2 3 (by omega)); (obtain ⟨⟨r4, hr4⟩, hf4⟩ := R2 4 (by omega)); (obtain ⟨⟨r5, hr5⟩, hf5⟩ := R2 5 (by omega)); (have R2s := Lib.hid R2); (have X2 := Lib.hid (X1.out.trans (hb.mono X1.out.size))); clear R2 hb))
  have HC6 := set6 (w := w2) (g := w.heap.size) R2s.out.some (.int .u8 ((i : Int) + 1)) (.string (nm i)) (.bool (decide (19 ≤ i))) (.int .u8 (kd i)) (.int .i64 (bt (kd i))) (.int .i64 (cy i))
  have HB6 := below6 (g := w.heap.size) X2.out (Nat.le_refl _) (.int .u8 ((i : Int) + 1)) (.string (nm i)) (.bool (decide (19 ≤ i))) (.int .u8 (kd i)) (.int .i64 (bt (kd i))) (.int .i64 (cy i))
  exact ret_struct2 Tryd.results14 Tryd.underlying28 [.int .u8 ((i : Int) + 1), .string (nm i), .bool (decide (19 ≤ i)), .int .u8 (kd i), .int .i64 (bt (kd i)), .int .i64 (cy i)] (by kernel_rfl) w.heap.size rfl HC6 (.int .i64 0) rfl rfl ⟨rfl, HB6⟩
set_option maxHeartbeats 1000000 in
theorem Find_miss (s : ByteArray) (hs : ∀ i, i < 39 → nm i ≠ s) (hl : s.size ≤ maxLen) (w : World) (hL : Lay w) :
    Calls Tryd.prog 14 #[.string s] w (fun e w' => e = .returned (.tuple #[.agg #[.int .u8 0, .string ⟨#[]⟩, .bool false, .int .u8 0, .int .i64 0, .int .i64 0], .int .i64 7]) ∧ Below w.heap.size w w') := by
  have HL := Lib.hid hL
  have HK := Lib.hid (keyOf_string_mk (s := s) Tryd.underlying9 hl)
  have HS := Lib.hid hs
  clear hL hs hl
  go_enter Tryd.func14, Tryd.ntmps14
  go_wp2_with (first
    | (go_at_call 27; refine (codes_any _ (w.heap.size + 1) (by simp) (HL.out.alloc _)).mono ?_; rintro e w1 ⟨rfl, hown, hb⟩; (have HO := Lib.hid hown); (have Y1 := Lib.hid hb); (have L1 := Lib.hid ((HL.out.alloc _).below hb)); (have X1 := Lib.hid (((Below.refl w.heap.size w).alloc (Nat.le_refl _) _).trans (hb.mono (by simp)))); clear hown hb)
    | (at_lookup; refine wpList_lookup_own_int _ rfl _ _ 58 rfl 9 22 .u8 key_law Tryd.underlying58 Tryd.underlying22 (zero_op _) (w.heap.size + 1) 39 _ rfl HO.out _ _ rfl HK.out ?_; intro c hat hwc; (rw [tb_miss _ s HS.out 39 (Nat.le_refl _)] at hat); (have hc : 0 = c := by injection hat with h1; injection h1); (subst hc); clear hat hwc)
    | (go_at_call 16; refine (Of_no 0 (by decide) (by decide) (by decide) _).mono ?_; rintro e w2 ⟨rfl, hb⟩; (have R2 := ((Six.alloc w 28 _ _ _ _ _ _).below Y1.out (by simp)).below hb (by have := Y1.out.size; simp at this; omega)); (obtain ⟨⟨r0, hr0⟩, hf0⟩ := R2 0 (by omega)); (obtain ⟨⟨r1, hr1⟩, hf1⟩ := R2 1 (by omega)); (obtain ⟨⟨r2, hr2⟩, hf2⟩ := R2 2 (by omega)); (obtain ⟨⟨r3, hr3⟩, hf3⟩ := R2 3 (by omega)); (obtain ⟨⟨r4, hr4⟩, hf4⟩ := R2 4 (by omega)); (obtain ⟨⟨r5, hr5⟩, hf5⟩ := R2 5 (by omega)); (have R2s := Lib.hid R2); (have X2 := Lib.hid (X1.out.trans (hb.mono X1.out.size))); clear R2 hb))
  have HC6 := set6 (w := w2) (g := w.heap.size) R2s.out.some (.int .u8 0) (.string ⟨#[]⟩) (.bool false) (.int .u8 0) (.int .i64 0) (.int .i64 0)
  have HB6 := below6 (g := w.heap.size) X2.out (Nat.le_refl _) (.int .u8 0) (.string ⟨#[]⟩) (.bool false) (.int .u8 0) (.int .i64 0) (.int .i64 0)
  exact ret_struct2 Tryd.results14 Tryd.underlying28 [.int .u8 0, .string ⟨#[]⟩, .bool false, .int .u8 0, .int .i64 0, .int .i64 0] (by kernel_rfl) w.heap.size rfl HC6 (.int .i64 7) rfl rfl ⟨rfl, HB6⟩
end Go.Proofs.YtjkdojdkmgaofaaDoor
