/- Contracts of layer 4: the program's Decode. -/
import Derived.Test.YtfndbdcapliclaaGreatDoorQ08
import Derived.Test.YtfndbdcapliclaaGreatDoorQ06
import Derived.Maps.OwnOps
import Derived.Maps.Views
import Derived.Deep.QuietTactic
import Derived.Deep.RegionWith
set_option linter.unusedSimpArgs false
set_option linter.unusedVariables false
namespace Go.Proofs.YtfndbdcapliclaaGreatDoor
open Go.ChangeShapes Go.WideShapes Go.ChangeAt Go.RowKit
theorem Decode_no (x : Int) (h : 32767 < x) (x1 : x ≤ 65535) (e : Bool) (w : World) :
    Calls Tryz.prog 44 #[.int .u16 x, .bool e] w (fun e w' => e = .returned (.tuple #[.agg #[.int .u8 0, .string ⟨#[]⟩, .bool false, .int .u8 0, .int .i64 0, .int .i64 0], .int .i64 0, .int .i64 3]) ∧ Below w.heap.size w w') := by
  go_enter Tryz.func44, Tryz.ntmps44
  go_wp2
  exact ret_struct3 Tryz.results44 Tryz.underlying41 [.int .u8 0, .string ⟨#[]⟩, .bool false, .int .u8 0, .int .i64 0, .int .i64 0] (by kernel_rfl) w.heap.size rfl (at_alloc [.int .u8 0, .string ⟨#[]⟩, .bool false, .int .u8 0, .int .i64 0, .int .i64 0]) (.int .i64 0) (.int .i64 3) rfl rfl rfl ⟨rfl, (Below.refl _ _).alloc (Nat.le_refl _) _⟩
set_option maxHeartbeats 2000000 in
theorem Decode_yes (x : Int) (x0 : 0 ≤ x) (x1 : x ≤ 32767) (ex : Bool) (i : Nat) (hi : decI x ex = i) (w : World) (hL : Lay w) :
    Calls Tryz.prog 44 #[.int .u16 x, .bool ex] w (fun e w' => e = .returned (.tuple #[.agg #[.int .u8 ((i : Int) + 1), .string (nm i), .bool (decide (19 ≤ i)), .int .u8 (kd i), .int .i64 (bt (kd i)), .int .i64 (cy i)], .int .i64 (x - bs i), .int .i64 0]) ∧ Below w.heap.size w w') := by
  have h39 : i < 39 := by rw [← hi]; exact decI_lt x ex
  have HX := Lib.hid (show decide (19 ≤ i) = ex by rw [← hi]; exact decI_ext x ex)
  have HO := Lib.hid (show encOk i (x - bs i) by rw [← hi]; exact dec_ok x x0 x1 ex)
  have HD := Lib.hid hi
  have HL := Lib.hid hL
  clear hi hL
  have R1 := Lib.hid (Six.alloc w 41 (.int .u8 0) (.string ⟨#[]⟩) (.bool false) (.int .u8 0) (.int .i64 0) (.int .i64 0))
  have X1 := Lib.hid ((Below.refl w.heap.size w).alloc (Nat.le_refl _) (.cells #[.int .u8 0, .string ⟨#[]⟩, .bool false, .int .u8 0, .int .i64 0, .int .i64 0] 41))
  have L1 := Lib.hid (HL.out.alloc (.cells #[.int .u8 0, .string ⟨#[]⟩, .bool false, .int .u8 0, .int .i64 0, .int .i64 0] 41))
  go_enter Tryz.func44, Tryz.ntmps44
  go_wp2
  have hz1 : w.heap.size < (w.alloc (.cells #[.int .u8 0, .string ⟨#[]⟩, .bool false, .int .u8 0, .int .i64 0, .int .i64 0] 41)).heap.size := by simp
  generalize (w.alloc (.cells #[.int .u8 0, .string ⟨#[]⟩, .bool false, .int .u8 0, .int .i64 0, .int .i64 0] 41)) = w1 at R1 X1 L1 hz1 ⊢
  go_loopw [13] (fun j wr => ∃ k : Nat, k ≤ i ∧ j = .int .i64 k ∧ Below w1.heap.size w1 wr) (fun j _ => i - (intOf j).toNat)
  case atStart => exact ⟨0, Nat.zero_le _, rfl, Below.refl _ _⟩
  case round =>
    obtain ⟨k, hk, rfl, hb⟩ := hrel
    have XB := Lib.hid hb
    have hz := hb.size
    have hk39 : k < 39 := by omega
    have bk := bs_bd k hk39
    have LB := Lib.hid (L1.out.below hb)
    obtain ⟨f0, f1, f2, f3, f4⟩ := LB.out.f k hk39
    have hsf := LB.out.sf
    have e0 : IntKind.i64.wrap x = x := IntWalk.i64_in _ (by omega)
    have e1 : IntKind.i64.wrap (x - bs k) = x - bs k := IntWalk.i64_in _ (by omega)
    have e2 : IntKind.u8.wrap ((k : Int) + 1) = (k : Int) + 1 := IntWalk.u8_in _ (by omega)
    clear hb
    by_cases hlt : k < i
    · by_cases he : decide (19 ≤ k) = ex
      · have HN := Lib.hid (decide_eq_false (show ¬ encOk k (x - bs k) from fun c => by
          have := dec_one hk39 he c
          rw [HD.out] at this; omega))
        have hee : (decide (19 ≤ k) == ex) = true := by rw [beq_iff_eq]; exact he
        clear he
        go_wp2_with (go_at_call 80; refine (encodes_any _ k hk39 (by omega) (x - bs k) false HN.out _ LB.out).mono ?_; rintro e w2 ⟨rfl, hb⟩; (have X2 := Lib.hid (XB.out.trans (hb.mono XB.out.size))); clear hb)
        exact ⟨⟨k + 1, by omega, by go_num, X2.out⟩, by simp [intOf]; omega⟩
      · have hee : (decide (19 ≤ k) == ex) = false := by rw [beq_eq_false_iff_ne]; exact he
        clear he
        go_wp2
        exact ⟨⟨k + 1, by omega, by go_num, XB.out⟩, by simp [intOf]; omega⟩
    · have e : k = i := by omega
      subst e
      have HN := Lib.hid (decide_eq_true HO.out)
      have hee : (decide (19 ≤ k) == ex) = true := by rw [beq_iff_eq]; exact HX.out
      go_wp2_with (first
        | (go_at_call 80; refine (encodes_any _ k hk39 (by omega) (x - bs k) true HN.out _ LB.out).mono ?_; rintro e w2 ⟨rfl, hb⟩; (have L2 := Lib.hid (LB.out.below hb)); (have X2 := Lib.hid (XB.out.trans (hb.mono XB.out.size))); (have hz2 := hb.size); clear hb)
        | (go_at_call 81; refine (opOf_any _ k hk39 (by omega) _ L2.out).mono ?_; rintro e w3 ⟨rfl, hb⟩; (have X3 := Lib.hid (X2.out.trans (hb.mono X2.out.size))); (have R2 := R1.out.below X3.out hz1); (obtain ⟨⟨r0, hr0⟩, hf0⟩ := R2 0 (by omega)); (obtain ⟨⟨r1, hr1⟩, hf1⟩ := R2 1 (by omega)); (obtain ⟨⟨r2, hr2⟩, hf2⟩ := R2 2 (by omega)); (obtain ⟨⟨r3, hr3⟩, hf3⟩ := R2 3 (by omega)); (obtain ⟨⟨r4, hr4⟩, hf4⟩ := R2 4 (by omega)); (obtain ⟨⟨r5, hr5⟩, hf5⟩ := R2 5 (by omega)); (have R2s := Lib.hid R2); clear R2 hb))
      have HC6 := set6 (w := w3) (g := w.heap.size) R2s.out.some (.int .u8 ((k : Int) + 1)) (.string (nm k)) (.bool (decide (19 ≤ k))) (.int .u8 (kd k)) (.int .i64 (bt (kd k))) (.int .i64 (cy k))
      have HB6 := below6 (g := w.heap.size) (X1.out.trans (X3.out.mono X1.out.size)) (Nat.le_refl _) (.int .u8 ((k : Int) + 1)) (.string (nm k)) (.bool (decide (19 ≤ k))) (.int .u8 (kd k)) (.int .i64 (bt (kd k))) (.int .i64 (cy k))
      exact ret_struct3 Tryz.results44 Tryz.underlying41 [.int .u8 ((k : Int) + 1), .string (nm k), .bool (decide (19 ≤ k)), .int .u8 (kd k), .int .i64 (bt (kd k)), .int .i64 (cy k)] (by kernel_rfl) w.heap.size rfl HC6 (.int .i64 (x - bs k)) (.int .i64 0) rfl rfl rfl ⟨rfl, HB6⟩
end Go.Proofs.YtfndbdcapliclaaGreatDoor

/- Contracts of layer 4: the program's Names and Find. -/
set_option linter.unusedSimpArgs false
set_option linter.unusedVariables false
namespace Go.Proofs.YtfndbdcapliclaaGreatDoor
open Go.ChangeShapes Go.WideShapes Go.ChangeAt Go.RowKit
end Go.Proofs.YtfndbdcapliclaaGreatDoor

/- Contracts of layer 4: the program's Find. -/
set_option linter.unusedSimpArgs false
set_option linter.unusedVariables false
namespace Go.Proofs.YtfndbdcapliclaaGreatDoor
open Go.ChangeShapes Go.WideShapes Go.ChangeAt Go.RowKit Go.Maps Go.WideMaps
/-- What the map of the names holds after k rounds. -/
def tb : Nat → DataW Unit
  | 0 => .map []
  | k + 1 => (tb k).put (.string (nm k).data.toList) (.lit (.int .u8 ((k : Int) + 1)))
theorem tb_map : ∀ k, IsMap (tb k)
  | 0 => isMap_empty
  | k + 1 => (tb_map k).put _ _
theorem key_ne {a b : ByteArray} (h : a ≠ b) : Lit.string a.data.toList ≠ Lit.string b.data.toList := by
  intro e
  injection e with e
  apply h
  cases a; cases b
  rename_i x y
  congr 1
  exact Array.toList_inj.1 e
theorem tb_hit (z : DataW Unit) : ∀ k, k ≤ 39 → ∀ i, i < k → (tb k).atKey (.string (nm i).data.toList) z = .lit (.int .u8 ((i : Int) + 1))
  | 0, _, i, h => absurd h (Nat.not_lt_zero _)
  | k + 1, h, i, hi => by
    unfold tb
    by_cases e : i = k
    · subst e; exact atKey_put_same (tb_map _) (show WideAt.IsKeyLit (.string _) from trivial) _ _
    · rw [atKey_put_other (key_ne (fun c => e (nm_inj i (by omega) k (by omega) c)))]
      exact tb_hit z k (by omega) i (by omega)
theorem tb_miss (z : DataW Unit) (s : ByteArray) (hs : ∀ i, i < 39 → nm i ≠ s) : ∀ k, k ≤ 39 → (tb k).atKey (.string s.data.toList) z = z
  | 0, _ => rfl
  | k + 1, h => by
    unfold tb
    rw [atKey_put_other (key_ne (fun c => hs k (by omega) c.symm))]
    exact tb_miss z s hs k (by omega)
theorem nm_size : ∀ i, i < 39 → (nm i).size ≤ maxLen := by
  have h : ∀ i, i < 39 → (nm i).size ≤ 6 := by decide
  intro i hi
  have := h i hi
  unfold maxLen; omega
theorem key_law : Keyed Tryz.prog 9 := string_keyed Tryz.underlying9
theorem zero_op (w : World) : (zeroValue 38).run Tryz.prog w = .ok (.int .u8 0) w := by kernel_rfl
theorem wf_code : ∀ k : Nat, k < 39 → (Lit.int .u8 ((k : Int) + 1)).wf = true := by decide
set_option maxRecDepth 100000 in
set_option maxHeartbeats 1000000 in
theorem codes_any (w : World) (B : Nat) (hB : w.heap.size = B) (hL : Lay w) :
    Calls Tryz.prog 127 #[] w fun e w' => e = .returned (.map (some B)) ∧ w'.ownsMap Tryz.prog 9 (plainElem Tryz.prog 38) B 39 (tb 39) ∧ Below w.heap.size w w' := by
  subst hB
  have HL := Lib.hid hL
  clear hL
  have hmm : ∀ w : World, (Instr.makeMap 134 (some (.int .i64 39))).run Tryz.prog w = .ok (.map (some w.heap.size)) (w.alloc (.map #[] 0)) := fun w => by kernel_rfl
  go_enter Tryz.func127, Tryz.ntmps127
  go_wp2
  go_loopw [4] (fun j wr => ∃ k : Nat, k ≤ 39 ∧ j = .int .i64 k ∧ wr.ownsMap Tryz.prog 9 (plainElem Tryz.prog 38) w.heap.size k (tb k) ∧ Below w.heap.size w wr) (fun j _ => 39 - (intOf j).toNat)
  case atStart => exact ⟨0, Nat.zero_le _, rfl, World.ownsMap_made _ _ _ _, (Below.refl _ _).alloc (Nat.le_refl _) _⟩
  case round =>
    obtain ⟨k, hk, rfl, hown, hb⟩ := hrel
    have XB := Lib.hid hb
    have HO := Lib.hid hown
    clear hown
    by_cases hlt : k < 39
    · have LB := HL.out.below hb
      obtain ⟨f0, f1, f2, f3, f4⟩ := LB.f k hlt
      have hsf := LB.sf
      have e2 : IntKind.u8.wrap ((k : Int) + 1) = (k : Int) + 1 := IntWalk.u8_in _ (by omega)
      have hkey := Lib.hid (keyOf_string_mk (s := nm k) Tryz.underlying9 (nm_size k hlt))
      have HW := Lib.hid (wf_code k hlt)
      clear LB f1 f2 f3 f4 hb
      go_wp2_with (at_mapUpdate; refine wpList_mapUpdate_own _ rfl _ _ _ 134 rfl 9 38 key_law Tryz.underlying134 _ w.heap.size k _ rfl HO.out (by unfold maxLen; omega) _ _ _ rfl rfl hkey.out _ [] (plainElem_int Tryz.underlying38 HW.out) ?_; intro w1 hown1 hgrow1)
      exact ⟨⟨k + 1, by omega, by go_num, hown1, XB.out.grown hgrow1 XB.out.size (fun j hj => by cases hj; exact Nat.le_refl _)⟩, by simp [intOf]; omega⟩
    · have e : k = 39 := by omega
      subst e
      clear hb
      go_wp2
      go_ret
      exact ⟨rfl, HO.out, XB.out⟩
theorem fine39 (i : Nat) (h : i < 39) : 1 ≤ (i : Int) + 1 ∧ (i : Int) + 1 ≤ 39 := by omega
set_option maxRecDepth 100000 in
set_option maxHeartbeats 1000000 in
theorem Find_hit (s : ByteArray) (i : Nat) (h39 : i < 39) (hs : nm i = s) (w : World) (hL : Lay w) :
    Calls Tryz.prog 69 #[.string s] w (fun e w' => e = .returned (.tuple #[.agg #[.int .u8 ((i : Int) + 1), .string (nm i), .bool (decide (19 ≤ i)), .int .u8 (kd i), .int .i64 (bt (kd i)), .int .i64 (cy i)], .int .i64 0]) ∧ Below w.heap.size w w') := by
  have HL := Lib.hid hL
  have HK := Lib.hid (keyOf_string_mk (s := s) Tryz.underlying9 (by rw [← hs]; exact nm_size i h39))
  have HS := Lib.hid hs
  clear hL hs
  go_enter Tryz.func69, Tryz.ntmps69
  go_wp2_with (first
    | (go_at_call 127; refine (codes_any _ (w.heap.size + 1) (by simp) (HL.out.alloc _)).mono ?_; rintro e w1 ⟨rfl, hown, hb⟩; (have HO := Lib.hid hown); (have Y1 := Lib.hid hb); (have L1 := Lib.hid ((HL.out.alloc _).below hb)); (have X1 := Lib.hid (((Below.refl w.heap.size w).alloc (Nat.le_refl _) _).trans (hb.mono (by simp)))); clear hown hb)
    | (at_lookup; refine wpList_lookup_own_int _ rfl _ _ 134 rfl 9 38 .u8 key_law Tryz.underlying134 Tryz.underlying38 (zero_op _) (w.heap.size + 1) 39 _ rfl HO.out _ _ rfl HK.out ?_; intro c hat hwc; (rw [← HS.out, tb_hit _ 39 (Nat.le_refl _) i h39] at hat); (have hc : (i : Int) + 1 = c := by injection hat with h1; injection h1); (subst hc); clear hat hwc)
    | (go_at_call 126; refine (Of_yes _ i h39 (by omega) _ L1.out).mono ?_; rintro e w2 ⟨rfl, hb⟩; (have R2 := ((Six.alloc w 41 _ _ _ _ _ _).below Y1.out (by simp)).below hb (by have := Y1.out.size; simp at this; omega)); (obtain ⟨⟨r0, hr0⟩, hf0⟩ := R2 0 (by omega)); (obtain ⟨⟨r1, hr1⟩, hf1⟩ := R2 1 (by omega)); (obtain ⟨⟨r2, hr2⟩, hf2⟩ := R2 2 (by omega)); (obtain ⟨⟨r3, hr3⟩, hf3⟩ := R2 3 (by omega)); (obtain ⟨⟨r4, hr4⟩, hf4⟩ := R2 4 (by omega)); (obtain ⟨⟨r5, hr5⟩, hf5⟩ := R2 5 (by omega)); (have R2s := Lib.hid R2); (have X2 := Lib.hid (X1.out.trans (hb.mono X1.out.size))); clear R2 hb))
  have HC6 := set6 (w := w2) (g := w.heap.size) R2s.out.some (.int .u8 ((i : Int) + 1)) (.string (nm i)) (.bool (decide (19 ≤ i))) (.int .u8 (kd i)) (.int .i64 (bt (kd i))) (.int .i64 (cy i))
  have HB6 := below6 (g := w.heap.size) X2.out (Nat.le_refl _) (.int .u8 ((i : Int) + 1)) (.string (nm i)) (.bool (decide (19 ≤ i))) (.int .u8 (kd i)) (.int .i64 (bt (kd i))) (.int .i64 (cy i))
  exact ret_struct2 Tryz.results69 Tryz.underlying41 [.int .u8 ((i : Int) + 1), .string (nm i), .bool (decide (19 ≤ i)), .int .u8 (kd i), .int .i64 (bt (kd i)), .int .i64 (cy i)] (by kernel_rfl) w.heap.size rfl HC6 (.int .i64 0) rfl rfl ⟨rfl, HB6⟩
set_option maxRecDepth 100000 in
set_option maxHeartbeats 1000000 in
theorem Find_miss (s : ByteArray) (hs : ∀ i, i < 39 → nm i ≠ s) (hl : s.size ≤ maxLen) (w : World) (hL : Lay w) :
    Calls Tryz.prog 69 #[.string s] w (fun e w' => e = .returned (.tuple #[.agg #[.int .u8 0, .string ⟨#[]⟩, .bool false, .int .u8 0, .int .i64 0, .int .i64 0], .int .i64 7]) ∧ Below w.heap.size w w') := by
  have HL := Lib.hid hL
  have HK := Lib.hid (keyOf_string_mk (s := s) Tryz.underlying9 hl)
  have HS := Lib.hid hs
  clear hL hs hl
  go_enter Tryz.func69, Tryz.ntmps69
  go_wp2_with (first
    | (go_at_call 127; refine (codes_any _ (w.heap.size + 1) (by simp) (HL.out.alloc _)).mono ?_; rintro e w1 ⟨rfl, hown, hb⟩; (have HO := Lib.hid hown); (have Y1 := Lib.hid hb); (have L1 := Lib.hid ((HL.out.alloc _).below hb)); (have X1 := Lib.hid (((Below.refl w.heap.size w).alloc (Nat.le_refl _) _).trans (hb.mono (by simp)))); clear hown hb)
    | (at_lookup; refine wpList_lookup_own_int _ rfl _ _ 134 rfl 9 38 .u8 key_law Tryz.underlying134 Tryz.underlying38 (zero_op _) (w.heap.size + 1) 39 _ rfl HO.out _ _ rfl HK.out ?_; intro c hat hwc; (rw [tb_miss _ s HS.out 39 (Nat.le_refl _)] at hat); (have hc : 0 = c := by injection hat with h1; injection h1); (subst hc); clear hat hwc)
    | (go_at_call 126; refine (Of_no 0 (by decide) (by decide) (by decide) _).mono ?_; rintro e w2 ⟨rfl, hb⟩; (have R2 := ((Six.alloc w 41 _ _ _ _ _ _).below Y1.out (by simp)).below hb (by have := Y1.out.size; simp at this; omega)); (obtain ⟨⟨r0, hr0⟩, hf0⟩ := R2 0 (by omega)); (obtain ⟨⟨r1, hr1⟩, hf1⟩ := R2 1 (by omega)); (obtain ⟨⟨r2, hr2⟩, hf2⟩ := R2 2 (by omega)); (obtain ⟨⟨r3, hr3⟩, hf3⟩ := R2 3 (by omega)); (obtain ⟨⟨r4, hr4⟩, hf4⟩ := R2 4 (by omega)); (obtain ⟨⟨r5, hr5⟩, hf5⟩ := R2 5 (by omega)); (have R2s := Lib.hid R2); (have X2 := Lib.hid (X1.out.trans (hb.mono X1.out.size))); clear R2 hb))
  have HC6 := set6 (w := w2) (g := w.heap.size) R2s.out.some (.int .u8 0) (.string ⟨#[]⟩) (.bool false) (.int .u8 0) (.int .i64 0) (.int .i64 0)
  have HB6 := below6 (g := w.heap.size) X2.out (Nat.le_refl _) (.int .u8 0) (.string ⟨#[]⟩) (.bool false) (.int .u8 0) (.int .i64 0) (.int .i64 0)
  exact ret_struct2 Tryz.results69 Tryz.underlying41 [.int .u8 0, .string ⟨#[]⟩, .bool false, .int .u8 0, .int .i64 0, .int .i64 0] (by kernel_rfl) w.heap.size rfl HC6 (.int .i64 7) rfl rfl ⟨rfl, HB6⟩
end Go.Proofs.YtfndbdcapliclaaGreatDoor

/- Contracts of layer 4: the helpers of its statements. -/
set_option linter.unusedSimpArgs false
set_option linter.unusedVariables false
namespace Go.Proofs.YtfndbdcapliclaaGreatDoor
open Go.ChangeShapes Go.WideShapes Go.ChangeAt Go.RowKit
def wordV (i : Nat) (k : Int) : Int := if encOk i k then bs i + k else 65535
theorem kw0 : ∃ i, i < 39 ∧ nm i = ⟨#[84, 67]⟩ ∧ wordV i 100 = 100 := ⟨0, by decide, rfl, by decide⟩
theorem kw1 : ∃ i, i < 39 ∧ nm i = ⟨#[84, 67]⟩ ∧ wordV i 4 = 65535 := ⟨0, by decide, rfl, by decide⟩
theorem kw2 : ∃ i, i < 39 ∧ nm i = ⟨#[84, 67, 70]⟩ ∧ wordV i 1024 = 5120 := ⟨5, by decide, rfl, by decide⟩
theorem kw3 : ∃ i, i < 39 ∧ nm i = ⟨#[87, 82, 73, 84, 69]⟩ ∧ wordV i 511 = 1023 := ⟨20, by decide, rfl, by decide⟩
theorem kw4 : ∃ i, i < 39 ∧ nm i = ⟨#[88, 67, 72]⟩ ∧ wordV i 7 = 23559 := ⟨16, by decide, rfl, by decide⟩
theorem kw5 : ∃ i, i < 39 ∧ nm i = ⟨#[82, 69, 83, 85, 77, 69]⟩ ∧ wordV i 0 = 20495 := ⟨13, by decide, rfl, by decide⟩
theorem kw6 : ∃ i, i < 39 ∧ nm i = ⟨#[82, 69, 83, 85, 77, 69]⟩ ∧ wordV i 1 = 65535 := ⟨13, by decide, rfl, by decide⟩
theorem kw7 : ∃ i, i < 39 ∧ nm i = ⟨#[73, 78, 68, 69, 88]⟩ ∧ wordV i 15 = 65535 := ⟨12, by decide, rfl, by decide⟩
theorem kw8 : ∃ i, i < 39 ∧ nm i = ⟨#[73, 78, 68, 69, 88]⟩ ∧ wordV i 16 = 20496 := ⟨12, by decide, rfl, by decide⟩
theorem kw9 : ∃ i, i < 39 ∧ nm i = ⟨#[67, 67, 83]⟩ ∧ wordV i 1024 = 65535 := ⟨4, by decide, rfl, by decide⟩
theorem kw10 : ∃ i, i < 39 ∧ nm i = ⟨#[84, 67, 70]⟩ ∧ wordV i 1023 = 65535 := ⟨5, by decide, rfl, by decide⟩
theorem kw11 : ∃ i, i < 39 ∧ nm i = ⟨#[84, 67]⟩ ∧ wordV i (-1) = 65535 := ⟨0, by decide, rfl, by decide⟩
theorem kw12 : ∃ i, i < 39 ∧ nm i = ⟨#[77, 80]⟩ ∧ wordV i 4096 = 65535 := ⟨38, by decide, rfl, by decide⟩
theorem ki0 : ∃ i, decI 6 false = i ∧ nm i = ⟨#[69, 88, 84, 69, 78, 68]⟩ ∧ (6 : Int) - bs i = 0 ∧ (0 : Int) ≤ 6 ∧ (6 : Int) ≤ 32767 := ⟨1, by decide, rfl, by decide, by decide, by decide⟩
theorem ki1 : ∃ i, decI 6 true = i ∧ nm i = ⟨#[82, 69, 65, 68]⟩ ∧ (6 : Int) - bs i = 6 ∧ (0 : Int) ≤ 6 ∧ (6 : Int) ≤ 32767 := ⟨19, by decide, rfl, by decide, by decide, by decide⟩
theorem ki2 : ∃ i, decI 20495 false = i ∧ nm i = ⟨#[82, 69, 83, 85, 77, 69]⟩ ∧ (20495 : Int) - bs i = 0 ∧ (0 : Int) ≤ 20495 ∧ (20495 : Int) ≤ 32767 := ⟨13, by decide, rfl, by decide, by decide, by decide⟩
theorem ki3 : ∃ i, decI 5120 true = i ∧ nm i = ⟨#[66, 90, 70]⟩ ∧ (5120 : Int) - bs i = 1024 ∧ (0 : Int) ≤ 5120 ∧ (5120 : Int) ≤ 32767 := ⟨28, by decide, rfl, by decide, by decide, by decide⟩
theorem ki4 : ∃ i, decI 20495 true = i ∧ nm i = ⟨#[88, 73, 78, 68, 69, 88]⟩ ∧ (20495 : Int) - bs i = 15 ∧ (0 : Int) ≤ 20495 ∧ (20495 : Int) ≤ 32767 := ⟨35, by decide, rfl, by decide, by decide, by decide⟩
theorem ki5 : ∃ i, decI 5119 false = i ∧ nm i = ⟨#[67, 67, 83]⟩ ∧ (5119 : Int) - bs i = 1023 ∧ (0 : Int) ≤ 5119 ∧ (5119 : Int) ≤ 32767 := ⟨4, by decide, rfl, by decide, by decide, by decide⟩
theorem ki6 : ∃ i, decI 0 false = i ∧ nm i = ⟨#[84, 67]⟩ ∧ (0 : Int) - bs i = 0 ∧ (0 : Int) ≤ 0 ∧ (0 : Int) ≤ 32767 := ⟨0, by decide, rfl, by decide, by decide, by decide⟩
theorem ki7 : ∃ i, decI 32767 false = i ∧ nm i = ⟨#[77, 65, 83, 75]⟩ ∧ (32767 : Int) - bs i = 4095 ∧ (0 : Int) ≤ 32767 ∧ (32767 : Int) ≤ 32767 := ⟨18, by decide, rfl, by decide, by decide, by decide⟩
theorem ki8 : ∃ i, decI 32767 true = i ∧ nm i = ⟨#[77, 80]⟩ ∧ (32767 : Int) - bs i = 4095 ∧ (0 : Int) ≤ 32767 ∧ (32767 : Int) ≤ 32767 := ⟨38, by decide, rfl, by decide, by decide, by decide⟩
theorem ki9 : ∃ i, decI 3584 true = i ∧ nm i = ⟨#[69, 68, 82, 85, 80, 84]⟩ ∧ (3584 : Int) - bs i = 0 ∧ (0 : Int) ≤ 3584 ∧ (3584 : Int) ≤ 32767 := ⟨26, by decide, rfl, by decide, by decide, by decide⟩
theorem Find_CCS (w : World) (hL : Lay w) : Calls Tryz.prog 69 #[.string ⟨#[67, 67, 83]⟩] w fun e w' => e = .returned (.tuple #[.agg #[.int .u8 5, .string ⟨#[67, 67, 83]⟩, .bool false, .int .u8 1, .int .i64 10, .int .i64 2], .int .i64 0]) ∧ Below w.heap.size w w' := Find_hit _ 4 (by omega) rfl w hL
theorem no_ccs : ∀ i, i < 39 → nm i ≠ ⟨#[99, 99, 115]⟩ := by decide
end Go.Proofs.YtfndbdcapliclaaGreatDoor
