/- Contracts of layer 4: the program's Names and Find. -/
import Derived.Test.YtjjkikghfmnikaaGreatDoorQ13
import Derived.Test.YtjjkikghfmnikaaGreatDoorQ06
import Derived.Maps.OwnOps
import Derived.Maps.Views
import Derived.Deep.QuietTactic
import Derived.Deep.RegionWith
set_option linter.unusedSimpArgs false
set_option linter.unusedVariables false
namespace Go.Proofs.YtjjkikghfmnikaaGreatDoor
open Go.ChangeShapes Go.WideShapes Go.ChangeAt Go.RowKit
end Go.Proofs.YtjjkikghfmnikaaGreatDoor

/- Contracts of layer 4: the program's Find. -/
set_option linter.unusedSimpArgs false
set_option linter.unusedVariables false
namespace Go.Proofs.YtjjkikghfmnikaaGreatDoor
open Go.ChangeShapes Go.WideShapes Go.ChangeAt Go.RowKit Go.Maps Go.WideMaps
/-- What the map of the names holds after k rounds. -/
def tb : Nat → DataW Unit
  | 0 => .map []
  | k + 1 => (tb k).put (.string (nm k).data.toList) (.lit (.int .u8 ((k : Int) + 1)))
theorem tb_map : ∀ k, IsMap (tb k)
  | 0 => isMap_empty
  | k + 1 => (tb_map k).put _ _
theorem key_ne {a b : ByteArray} (h : a ≠ b) : Lit.string a.data.toList ≠ Lit.string b.data.toList := by
  intro e
  injection e with e
  apply h
  cases a; cases b
  rename_i x y
  congr 1
  exact Array.toList_inj.1 e
theorem tb_hit (z : DataW Unit) : ∀ k, k ≤ 39 → ∀ i, i < k → (tb k).atKey (.string (nm i).data.toList) z = .lit (.int .u8 ((i : Int) + 1))
  | 0, _, i, h => absurd h (Nat.not_lt_zero _)
  | k + 1, h, i, hi => by
    unfold tb
    by_cases e : i = k
    · subst e; exact atKey_put_same (tb_map _) (show WideAt.IsKeyLit (.string _) from trivial) _ _
    · rw [atKey_put_other (key_ne (fun c => e (nm_inj i (by omega) k (by omega) c)))]
      exact tb_hit z k (by omega) i (by omega)
theorem tb_miss (z : DataW Unit) (s : ByteArray) (hs : ∀ i, i < 39 → nm i ≠ s) : ∀ k, k ≤ 39 → (tb k).atKey (.string s.data.toList) z = z
  | 0, _ => rfl
  | k + 1, h => by
    unfold tb
    rw [atKey_put_other (key_ne (fun c => hs k (by omega) c.symm))]
    exact tb_miss z s hs k (by omega)
theorem nm_size : ∀ i, i < 39 → (nm i).size ≤ maxLen := by
  have h : ∀ i, i < 39 → (nm i).size ≤ 6 := by decide
  intro i hi
  have := h i hi
  unfold maxLen; omega
theorem key_law : Keyed Tryz.prog 9 := string_keyed Tryz.underlying9
theorem zero_op (w : World) : (zeroValue 38).run Tryz.prog w = .ok (.int .u8 0) w := by kernel_rfl
theorem wf_code : ∀ k : Nat, k < 39 → (Lit.int .u8 ((k : Int) + 1)).wf = true := by decide
set_option maxRecDepth 100000 in
set_option maxHeartbeats 1000000 in
theorem codes_any (w : World) (B : Nat) (hB : w.heap.size = B) (hL : Lay w) :
    Calls Tryz.prog 132 #[] w fun e w' => e = .returned (.map (some B)) ∧ w'.ownsMap Tryz.prog 9 (plainElem Tryz.prog 38) B 39 (tb 39) ∧ Below w.heap.size w w' := by
  subst hB
  have HL := Lib.hid hL
  clear hL
  have hmm : ∀ w : World, (Instr.makeMap 142 (some (.int .i64 39))).run Tryz.prog w = .ok (.map (some w.heap.size)) (w.alloc (.map #[] 0)) := fun w => by kernel_rfl
  go_enter Tryz.func132, Tryz.ntmps132
  go_wp2
  go_loopw [4] (fun j wr => ∃ k : Nat, k ≤ 39 ∧ j = .int .i64 k ∧ wr.ownsMap Tryz.prog 9 (plainElem Tryz.prog 38) w.heap.size k (tb k) ∧ Below w.heap.size w wr) (fun j _ => 39 - (intOf j).toNat)
  case atStart => exact ⟨0, Nat.zero_le _, rfl, World.ownsMap_made _ _ _ _, (Below.refl _ _).alloc (Nat.le_refl _) _⟩
  case round =>
    obtain ⟨k, hk, rfl, hown, hb⟩ := hrel
    have XB := Lib.hid hb
    have HO := Lib.hid hown
    clear hown
    by_cases hlt : k < 39
    · have LB := HL.out.below hb
      obtain ⟨f0, f1, f2, f3, f4⟩ := LB.f k hlt
      have hsf := LB.sf
      have e2 : IntKind.u8.wrap ((k : Int) + 1) = (k : Int) + 1 := IntWalk.u8_in _ (by omega)
      have hkey := Lib.hid (keyOf_string_mk (s := nm k) Tryz.underlying9 (nm_size k hlt))
      have HW := Lib.hid (wf_code k hlt)
      clear LB f1 f2 f3 f4 hb
      go_wp2_with (at_mapUpdate; refine wpList_mapUpdate_own _ rfl _ _ _ 142 rfl 9 38 key_law Tryz.underlying142 _ w.heap.size k _ rfl HO.out (by unfold maxLen; omega) _ _ _ rfl rfl hkey.out _ [] (plainElem_int Tryz.underlying38 HW.out) ?_; intro w1 hown1 hgrow1)
      exact ⟨⟨k + 1, by omega, by go_num, hown1, XB.out.grown hgrow1 XB.out.size (fun j hj => by cases hj; exact Nat.le_refl _)⟩, by simp [intOf]; omega⟩
    · have e : k = 39 := by omega
      subst e
      clear hb
      go_wp2
      go_ret
      exact ⟨rfl, HO.out, XB.out⟩
theorem fine39 (i : Nat) (h : i < 39) : 1 ≤ (i : Int) + 1 ∧ (i : Int) + 1 ≤ 39 := by omega
set_option maxRecDepth 100000 in
set_option maxHeartbeats 1000000 in
theorem Find_hit (s : ByteArray) (i : Nat) (h39 : i < 39) (hs : nm i = s) (w : World) (hL : Lay w) :
    Calls Tryz.prog 61 #[.string s] w (fun e w' => e = .returned (.tuple #[.agg #[.int .u8 ((i : Int) + 1), .string (nm i), .bool (decide (19 ≤ i)), .int .u8 (kd i), .int .i64 (bt (kd i)), .int .i64 (cy i)], .int .i64 0]) ∧ Below w.heap.size w w') := by
  have HL := Lib.hid hL
  have HK := Lib.hid (keyOf_string_mk (s := s) Tryz.underlying9 (by rw [← hs]; exact nm_size i h39))
  have HS := Lib.hid hs
  clear hL hs
  go_enter Tryz.func61, Tryz.ntmps61
  go_wp2_with (first
    | (go_at_call 132; refine (codes_any _ (w.heap.size + 1) (by simp) (HL.out.alloc _)).mono ?_; rintro e w1 ⟨rfl, hown, hb⟩; (have HO := Lib.hid hown); (have Y1 := Lib.hid hb); (have L1 := Lib.hid ((HL.out.alloc _).below hb)); (have X1 := Lib.hid (((Below.refl w.heap.size w).alloc (Nat.le_refl _) _).trans (hb.mono (by simp)))); clear hown hb)
    | (at_lookup; refine wpList_lookup_own_int _ rfl _ _ 142 rfl 9 38 .u8 key_law Tryz.underlying142 Tryz.underlying38 (zero_op _) (w.heap.size + 1) 39 _ rfl HO.out _ _ rfl HK.out ?_; intro c hat hwc; (rw [← HS.out, tb_hit _ 39 (Nat.le_refl _) i h39] at hat); (have hc : (i : Int) + 1 = c := by injection hat with h1; injection h1); (subst hc); clear hat hwc)
    | (go_at_call 131; refine (Of_yes _ i h39 (by omega) _ L1.out).mono ?_; rintro e w2 ⟨rfl, hb⟩; (have R2 := ((Six.alloc w 41 _ _ _ _ _ _).below Y1.out (by simp)).below hb (by have := Y1.out.size; simp at this; omega)); (obtain ⟨⟨r0, hr0⟩, hf0⟩ := R2 0 (by omega)); (obtain ⟨⟨r1, hr1⟩, hf1⟩ := R2 1 (by omega)); (obtain ⟨⟨r2, hr2⟩, hf2⟩ := R2 2 (by omega)); (obtain ⟨⟨r3, hr3⟩, hf3⟩ := R2 3 (by omega)); (obtain ⟨⟨r4, hr4⟩, hf4⟩ := R2 4 (by omega)); (obtain ⟨⟨r5, hr5⟩, hf5⟩ := R2 5 (by omega)); (have R2s := Lib.hid R2); (have X2 := Lib.hid (X1.out.trans (hb.mono X1.out.size))); clear R2 hb))
  have HC6 := set6 (w := w2) (g := w.heap.size) R2s.out.some (.int .u8 ((i : Int) + 1)) (.string (nm i)) (.bool (decide (19 ≤ i))) (.int .u8 (kd i)) (.int .i64 (bt (kd i))) (.int .i64 (cy i))
  have HB6 := below6 (g := w.heap.size) X2.out (Nat.le_refl _) (.int .u8 ((i : Int) + 1)) (.string (nm i)) (.bool (decide (19 ≤ i))) (.int .u8 (kd i)) (.int .i64 (bt (kd i))) (.int .i64 (cy i))
  exact ret_struct2 Tryz.results61 Tryz.underlying41 [.int .u8 ((i : Int) + 1), .string (nm i), .bool (decide (19 ≤ i)), .int .u8 (kd i), .int .i64 (bt (kd i)), .int .i64 (cy i)] (by kernel_rfl) w.heap.size rfl HC6 (.int .i64 0) rfl rfl ⟨rfl, HB6⟩
set_option maxRecDepth 100000 in
set_option maxHeartbeats 1000000 in
theorem Find_miss (s : ByteArray) (hs : ∀ i, i < 39 → nm i ≠ s) (hl : s.size ≤ maxLen) (w : World) (hL : Lay w) :
    Calls Tryz.prog 61 #[.string s] w (fun e w' => e = .returned (.tuple #[.agg #[.int .u8 0, .string ⟨#[]⟩, .bool false, .int .u8 0, .int .i64 0, .int .i64 0], .int .i64 7]) ∧ Below w.heap.size w w') := by
  have HL := Lib.hid hL
  have HK := Lib.hid (keyOf_string_mk (s := s) Tryz.underlying9 hl)
  have HS := Lib.hid hs
  clear hL hs hl
  go_enter Tryz.func61, Tryz.ntmps61
  go_wp2_with (first
    | (go_at_call 132; refine (codes_any _ (w.heap.size + 1) (by simp) (HL.out.alloc _)).mono ?_; rintro e w1 ⟨rfl, hown, hb⟩; (have HO := Lib.hid hown); (have Y1 := Lib.hid hb); (have L1 := Lib.hid ((HL.out.alloc _).below hb)); (have X1 := Lib.hid (((Below.refl w.heap.size w).alloc (Nat.le_refl _) _).trans (hb.mono (by simp)))); clear hown hb)
    | (at_lookup; refine wpList_lookup_own_int _ rfl _ _ 142 rfl 9 38 .u8 key_law Tryz.underlying142 Tryz.underlying38 (zero_op _) (w.heap.size + 1) 39 _ rfl HO.out _ _ rfl HK.out ?_; intro c hat hwc; (rw [tb_miss _ s HS.out 39 (Nat.le_refl _)] at hat); (have hc : 0 = c := by injection hat with h1; injection h1); (subst hc); clear hat hwc)
    | (go_at_call 131; refine (Of_no 0 (by decide) (by decide) (by decide) _).mono ?_; rintro e w2 ⟨rfl, hb⟩; (have R2 := ((Six.alloc w 41 _ _ _ _ _ _).below Y1.out (by simp)).below hb (by have := Y1.out.size; simp at this; omega)); (obtain ⟨⟨r0, hr0⟩, hf0⟩ := R2 0 (by omega)); (obtain ⟨⟨r1, hr1⟩, hf1⟩ := R2 1 (by omega)); (obtain ⟨⟨r2, hr2⟩, hf2⟩ := R2 2 (by omega)); (obtain ⟨⟨r3, hr3⟩, hf3⟩ := R2 3 (by omega)); (obtain ⟨⟨r4, hr4⟩, hf4⟩ := R2 4 (by omega)); (obtain ⟨⟨r5, hr5⟩, hf5⟩ := R2 5 (by omega)); (have R2s := Lib.hid R2); (have X2 := Lib.hid (X1.out.trans (hb.mono X1.out.size))); clear R2 hb))
  have HC6 := set6 (w := w2) (g := w.heap.size) R2s.out.some (.int .u8 0) (.string ⟨#[]⟩) (.bool false) (.int .u8 0) (.int .i64 0) (.int .i64 0)
  have HB6 := below6 (g := w.heap.size) X2.out (Nat.le_refl _) (.int .u8 0) (.string ⟨#[]⟩) (.bool false) (.int .u8 0) (.int .i64 0) (.int .i64 0)
  exact ret_struct2 Tryz.results61 Tryz.underlying41 [.int .u8 0, .string ⟨#[]⟩, .bool false, .int .u8 0, .int .i64 0, .int .i64 0] (by kernel_rfl) w.heap.size rfl HC6 (.int .i64 7) rfl rfl ⟨rfl, HB6⟩
end Go.Proofs.YtjjkikghfmnikaaGreatDoor

/- Contracts of layer 4: the helpers of its statements. -/
set_option linter.unusedSimpArgs false
set_option linter.unusedVariables false
namespace Go.Proofs.YtjjkikghfmnikaaGreatDoor
open Go.ChangeShapes Go.WideShapes Go.ChangeAt Go.RowKit
def wordV (i : Nat) (k : Int) : Int := if encOk i k then bs i + k else 65535
theorem kw0 : ∃ i, i < 39 ∧ nm i = ⟨#[84, 67]⟩ ∧ wordV i 100 = 100 := ⟨0, by decide, rfl, by decide⟩
theorem kw1 : ∃ i, i < 39 ∧ nm i = ⟨#[84, 67]⟩ ∧ wordV i 4 = 65535 := ⟨0, by decide, rfl, by decide⟩
theorem kw2 : ∃ i, i < 39 ∧ nm i = ⟨#[84, 67, 70]⟩ ∧ wordV i 1024 = 5120 := ⟨5, by decide, rfl, by decide⟩
theorem kw3 : ∃ i, i < 39 ∧ nm i = ⟨#[87, 82, 73, 84, 69]⟩ ∧ wordV i 511 = 1023 := ⟨20, by decide, rfl, by decide⟩
theorem kw4 : ∃ i, i < 39 ∧ nm i = ⟨#[88, 67, 72]⟩ ∧ wordV i 7 = 23559 := ⟨16, by decide, rfl, by decide⟩
theorem kw5 : ∃ i, i < 39 ∧ nm i = ⟨#[82, 69, 83, 85, 77, 69]⟩ ∧ wordV i 0 = 20495 := ⟨13, by decide, rfl, by decide⟩
theorem kw6 : ∃ i, i < 39 ∧ nm i = ⟨#[82, 69, 83, 85, 77, 69]⟩ ∧ wordV i 1 = 65535 := ⟨13, by decide, rfl, by decide⟩
theorem kw7 : ∃ i, i < 39 ∧ nm i = ⟨#[73, 78, 68, 69, 88]⟩ ∧ wordV i 15 = 65535 := ⟨12, by decide, rfl, by decide⟩
theorem kw8 : ∃ i, i < 39 ∧ nm i = ⟨#[73, 78, 68, 69, 88]⟩ ∧ wordV i 16 = 20496 := ⟨12, by decide, rfl, by decide⟩
theorem kw9 : ∃ i, i < 39 ∧ nm i = ⟨#[67, 67, 83]⟩ ∧ wordV i 1024 = 65535 := ⟨4, by decide, rfl, by decide⟩
theorem kw10 : ∃ i, i < 39 ∧ nm i = ⟨#[84, 67, 70]⟩ ∧ wordV i 1023 = 65535 := ⟨5, by decide, rfl, by decide⟩
theorem kw11 : ∃ i, i < 39 ∧ nm i = ⟨#[84, 67]⟩ ∧ wordV i (-1) = 65535 := ⟨0, by decide, rfl, by decide⟩
theorem kw12 : ∃ i, i < 39 ∧ nm i = ⟨#[77, 80]⟩ ∧ wordV i 4096 = 65535 := ⟨38, by decide, rfl, by decide⟩
theorem ki0 : ∃ i, decI 6 false = i ∧ nm i = ⟨#[69, 88, 84, 69, 78, 68]⟩ ∧ (6 : Int) - bs i = 0 ∧ (0 : Int) ≤ 6 ∧ (6 : Int) ≤ 32767 := ⟨1, by decide, rfl, by decide, by decide, by decide⟩
theorem ki1 : ∃ i, decI 6 true = i ∧ nm i = ⟨#[82, 69, 65, 68]⟩ ∧ (6 : Int) - bs i = 6 ∧ (0 : Int) ≤ 6 ∧ (6 : Int) ≤ 32767 := ⟨19, by decide, rfl, by decide, by decide, by decide⟩
theorem ki2 : ∃ i, decI 20495 false = i ∧ nm i = ⟨#[82, 69, 83, 85, 77, 69]⟩ ∧ (20495 : Int) - bs i = 0 ∧ (0 : Int) ≤ 20495 ∧ (20495 : Int) ≤ 32767 := ⟨13, by decide, rfl, by decide, by decide, by decide⟩
theorem ki3 : ∃ i, decI 5120 true = i ∧ nm i = ⟨#[66, 90, 70]⟩ ∧ (5120 : Int) - bs i = 1024 ∧ (0 : Int) ≤ 5120 ∧ (5120 : Int) ≤ 32767 := ⟨28, by decide, rfl, by decide, by decide, by decide⟩
theorem ki4 : ∃ i, decI 20495 true = i ∧ nm i = ⟨#[88, 73, 78, 68, 69, 88]⟩ ∧ (20495 : Int) - bs i = 15 ∧ (0 : Int) ≤ 20495 ∧ (20495 : Int) ≤ 32767 := ⟨35, by decide, rfl, by decide, by decide, by decide⟩
theorem ki5 : ∃ i, decI 5119 false = i ∧ nm i = ⟨#[67, 67, 83]⟩ ∧ (5119 : Int) - bs i = 1023 ∧ (0 : Int) ≤ 5119 ∧ (5119 : Int) ≤ 32767 := ⟨4, by decide, rfl, by decide, by decide, by decide⟩
theorem ki6 : ∃ i, decI 0 false = i ∧ nm i = ⟨#[84, 67]⟩ ∧ (0 : Int) - bs i = 0 ∧ (0 : Int) ≤ 0 ∧ (0 : Int) ≤ 32767 := ⟨0, by decide, rfl, by decide, by decide, by decide⟩
theorem ki7 : ∃ i, decI 32767 false = i ∧ nm i = ⟨#[77, 65, 83, 75]⟩ ∧ (32767 : Int) - bs i = 4095 ∧ (0 : Int) ≤ 32767 ∧ (32767 : Int) ≤ 32767 := ⟨18, by decide, rfl, by decide, by decide, by decide⟩
theorem ki8 : ∃ i, decI 32767 true = i ∧ nm i = ⟨#[77, 80]⟩ ∧ (32767 : Int) - bs i = 4095 ∧ (0 : Int) ≤ 32767 ∧ (32767 : Int) ≤ 32767 := ⟨38, by decide, rfl, by decide, by decide, by decide⟩
theorem ki9 : ∃ i, decI 3584 true = i ∧ nm i = ⟨#[69, 68, 82, 85, 80, 84]⟩ ∧ (3584 : Int) - bs i = 0 ∧ (0 : Int) ≤ 3584 ∧ (3584 : Int) ≤ 32767 := ⟨26, by decide, rfl, by decide, by decide, by decide⟩
theorem Find_CCS (w : World) (hL : Lay w) : Calls Tryz.prog 61 #[.string ⟨#[67, 67, 83]⟩] w fun e w' => e = .returned (.tuple #[.agg #[.int .u8 5, .string ⟨#[67, 67, 83]⟩, .bool false, .int .u8 1, .int .i64 10, .int .i64 2], .int .i64 0]) ∧ Below w.heap.size w w' := Find_hit _ 4 (by omega) rfl w hL
theorem no_ccs : ∀ i, i < 39 → nm i ≠ ⟨#[99, 99, 115]⟩ := by decide
end Go.Proofs.YtjjkikghfmnikaaGreatDoor

/- Layer 4: the program's functions and the reference's answer the same. -/
set_option linter.unusedSimpArgs false
set_option linter.unusedVariables false
namespace Go.Proofs.YtjjkikghfmnikaaGreatDoor
open Go.ChangeShapes Go.WideShapes Go.ChangeAt Go.RowKit
def Hit (s : ByteArray) (i : Nat) : Prop := i < 39 ∧ nm i = s
def Miss (s : ByteArray) : Prop := ∀ i, i < 39 → nm i ≠ s
theorem hit_or_miss (s : ByteArray) : (∃ i, Hit s i) ∨ Miss s := by
  by_cases h : ∃ i, Hit s i
  · exact .inl h
  · exact .inr (fun i hi e => h ⟨i, hi, e⟩)
/-- A call that returns an instruction and an error. -/
def OpRet (f : FuncId) (args : Array Value) (c0 : Int) (n : ByteArray) (b : Bool) (q x y er : Int) : Prop := ∀ w, Lay w → Calls Tryz.prog f args w fun e w' => e = .returned (.tuple #[.agg #[.int .u8 c0, .string n, .bool b, .int .u8 q, .int .i64 x, .int .i64 y], .int .i64 er]) ∧ Below w.heap.size w w'
theorem of_both (c : Int) (h0 : 0 ≤ c) (h1 : c ≤ 255) : ∃ c0 n b q x y er, OpRet 131 #[.int .u8 c] c0 n b q x y er ∧ OpRet 85 #[.int .u8 c] c0 n b q x y er := by
  by_cases h : 1 ≤ c ∧ c ≤ 39
  · obtain ⟨i, hi⟩ := Int.eq_ofNat_of_zero_le (show 0 ≤ c - 1 by omega)
    try simp only [Int.ofNat_eq_natCast] at hi
    exact ⟨_, _, _, _, _, _, _, fun w hL => Of_yes c i (by omega) hi w hL, fun w _ => rOf_yes c i (by omega) hi w⟩
  · exact ⟨_, _, _, _, _, _, _, fun w _ => Of_no c h h0 h1 w, fun w _ => rOf_no c h w⟩
/-- A call that returns a word and an error. -/
def WdRet (f : FuncId) (args : Array Value) (v er : Int) : Prop := ∀ w, Lay w → Calls Tryz.prog f args w fun e w' => e = .returned (.tuple #[.int .u16 v, .int .i64 er]) ∧ Below w.heap.size w w'
theorem enc_both (c0 : Int) (n : ByteArray) (b : Bool) (q x y k : Int) (h0 : 0 ≤ c0) (h1 : c0 ≤ 255) (k0 : -9223372036854775808 ≤ k) (k1 : k ≤ 9223372036854775807) : ∃ v er, WdRet 62 #[.agg #[.int .u8 c0, .string n, .bool b, .int .u8 q, .int .i64 x, .int .i64 y], .int .i64 k] v er ∧ WdRet 86 #[.agg #[.int .u8 c0, .string n, .bool b, .int .u8 q, .int .i64 x, .int .i64 y], .int .i64 k] v er := by
  by_cases h : 1 ≤ c0 ∧ c0 ≤ 39
  · obtain ⟨i, hi⟩ := Int.eq_ofNat_of_zero_le (show 0 ≤ c0 - 1 by omega)
    try simp only [Int.ofNat_eq_natCast] at hi
    exact ⟨_, _, fun w hL => Encode_yes c0 n b q x y i (by omega) hi k k0 k1 w hL, fun w _ => rEncode_yes c0 n b q x y i (by omega) hi k k0 k1 w⟩
  · exact ⟨_, _, fun w _ => Encode_no c0 n b q x y h h0 h1 k k0 k1 w, fun w _ => rEncode_no c0 n b q x y h k w⟩
/-- The six cells of an instruction. -/
def OpAt (w : World) (g : Nat) (c0 : Int) (n : ByteArray) (b : Bool) (q x y : Int) : Prop := w.cell? ⟨g, 0, none⟩ = some (.int .u8 c0) ∧ w.cell? ⟨g, 1, none⟩ = some (.string n) ∧ w.cell? ⟨g, 2, none⟩ = some (.bool b) ∧ w.cell? ⟨g, 3, none⟩ = some (.int .u8 q) ∧ w.cell? ⟨g, 4, none⟩ = some (.int .i64 x) ∧ w.cell? ⟨g, 5, none⟩ = some (.int .i64 y)
theorem OpAt.below {w w' : World} {g B : Nat} {c0 : Int} {n : ByteArray} {b : Bool} {q x y : Int} (h : OpAt w g c0 n b q x y) (hb : Below B w w') (hg : g < B) : OpAt w' g c0 n b q x y :=
  ⟨(hb.cell (p := ⟨g, 0, none⟩) hg).trans h.1, (hb.cell (p := ⟨g, 1, none⟩) hg).trans h.2.1, (hb.cell (p := ⟨g, 2, none⟩) hg).trans h.2.2.1, (hb.cell (p := ⟨g, 3, none⟩) hg).trans h.2.2.2.1, (hb.cell (p := ⟨g, 4, none⟩) hg).trans h.2.2.2.2.1, (hb.cell (p := ⟨g, 5, none⟩) hg).trans h.2.2.2.2.2⟩
theorem OpAt.alloc (w : World) (T : TypeId) (c0 : Int) (n : ByteArray) (b : Bool) (q x y : Int) : OpAt (w.alloc (.cells #[.int .u8 c0, .string n, .bool b, .int .u8 q, .int .i64 x, .int .i64 y] T)) w.heap.size c0 n b q x y := by
  refine ⟨?_, ?_, ?_, ?_, ?_, ?_⟩ <;> (rw [World.cell?_alloc_at _ _ _ _ rfl]; rfl)
end Go.Proofs.YtjjkikghfmnikaaGreatDoor
