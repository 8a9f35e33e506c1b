/- Contracts of layer 5: the maps of the effects. -/
import Derived.Test.YtfndbdcapliclaaGreatDoorQ17
set_option linter.unusedSimpArgs false
set_option linter.unusedVariables false
set_option maxRecDepth 100000
namespace Go.Proofs.YtfndbdcapliclaaGreatDoor
open Go.ChangeShapes Go.WideShapes Go.ChangeAt Go.RowKit
/-- The method of instruction i. -/
def efn (i : Nat) : FuncId :=
  match i with
  | 0 => 93 | 1 => 86 | 2 => 87 | 3 => 88 | 4 => 151 | 5 => 90 | 6 => 152 | 7 => 153 | 8 => 154 | 9 => 155
  | 10 => 94 | 11 => 95 | 12 => 147 | 13 => 89 | 14 => 156 | 15 => 157 | 16 => 158 | 17 => 96 | 18 => 97 | 19 => 102
  | 20 => 103 | 21 => 104 | 22 => 105 | 23 => 106 | 24 => 107 | 25 => 108 | 26 => 109 | 27 => 159 | 28 => 91 | 29 => 160
  | 30 => 161 | 31 => 162 | 32 => 163 | 33 => 98 | 34 => 99 | 35 => 100 | 36 => 164 | 37 => 92 | _ => 101
def entry (g : Nat) (i : Nat) : ByteArray × Value := (nm i, .func (.func (efn i)) #[.pointer (some ⟨g, 0, none⟩)] #[])
/-- The instructions of a kind, as their map lists them. -/
def kindL (q : Int) : List Nat :=
  if q = 0 then [1, 2, 3, 13] else if q = 2 then [5, 28, 37] else if q = 3 then [0, 10, 11, 17, 18, 33, 34, 35, 38] else if q = 4 then [19, 20, 21, 22, 23, 24, 25, 26]
  else [4, 6, 7, 8, 9, 12, 14, 15, 16, 27, 29, 30, 31, 32, 36]
def tabK (q : Int) (g : Nat) : List (ByteArray × Value) := (kindL q).map (entry g)
theorem look_tab (g i : Nat) (h : i < 39) : ∃ n, look (nm i) (tabK (kd i) g) 0 = some (n, .func (.func (efn i)) #[.pointer (some ⟨g, 0, none⟩)] #[]) := by
  have : i = 0 ∨ i = 1 ∨ i = 2 ∨ i = 3 ∨ i = 4 ∨ i = 5 ∨ i = 6 ∨ i = 7 ∨ i = 8 ∨ i = 9 ∨ i = 10 ∨ i = 11 ∨ i = 12 ∨ i = 13 ∨ i = 14 ∨ i = 15 ∨ i = 16 ∨ i = 17 ∨ i = 18 ∨ i = 19 ∨ i = 20 ∨ i = 21 ∨ i = 22 ∨ i = 23 ∨ i = 24 ∨ i = 25 ∨ i = 26 ∨ i = 27 ∨ i = 28 ∨ i = 29 ∨ i = 30 ∨ i = 31 ∨ i = 32 ∨ i = 33 ∨ i = 34 ∨ i = 35 ∨ i = 36 ∨ i = 37 ∨ i = 38 := by omega
  rcases this with rfl | rfl | rfl | rfl | rfl | rfl | rfl | rfl | rfl | rfl | rfl | rfl | rfl | rfl | rfl | rfl | rfl | rfl | rfl | rfl | rfl | rfl | rfl | rfl | rfl | rfl | rfl | rfl | rfl | rfl | rfl | rfl | rfl | rfl | rfl | rfl | rfl | rfl | rfl
  all_goals exact ⟨_, rfl⟩
set_option maxHeartbeats 4000000 in
theorem erasableEffects_any (g : Nat) (w : World) :
    Calls Tryz.prog 110 #[.pointer (some ⟨g, 0, none⟩)] w fun e w' => e = .returned (.map (some w.heap.size)) ∧ MapF w' w.heap.size (tabK 1 g) ∧ Below w.heap.size w w' := by
  have hmm : ∀ w : World, (Instr.makeMap 92 none).run Tryz.prog w = .ok (.map (some w.heap.size)) (w.alloc (.map #[] 0)) := fun w => by kernel_rfl
  have HM := Lib.hid (MapF.new w)
  have HB := Lib.hid ((Below.refl w.heap.size w).alloc (Nat.le_refl _) (.map #[] 0))
  go_enter Tryz.func110, Tryz.ntmps110
  go_wp2_with (refine wp_insertF rfl _ _ _ 92 rfl 9 1 Tryz.underlying92 Tryz.underlying9 w.heap.size _ _ _ HM.out rfl rfl rfl rfl ?_; intro w1 hm1 hb1; (replace HM := Lib.hid hm1); (replace HB := Lib.hid (HB.out.trans (hb1 _ (Nat.le_refl _)))); clear hm1 hb1)
  go_ret
  exact ⟨rfl, HM.out, HB.out⟩
set_option maxHeartbeats 4000000 in
theorem effects_any (g : Nat) (q : Int) (hq : q = 0 ∨ q = 1 ∨ q = 2 ∨ q = 3 ∨ q = 4) (w : World) :
    Calls Tryz.prog 49 #[.pointer (some ⟨g, 0, none⟩), .int .u8 q] w fun e w' => e = .returned (.map (some w.heap.size)) ∧ MapF w' w.heap.size (tabK q g) ∧ Below w.heap.size w w' := by
  have hmm : ∀ w : World, (Instr.makeMap 92 none).run Tryz.prog w = .ok (.map (some w.heap.size)) (w.alloc (.map #[] 0)) := fun w => by kernel_rfl
  rcases hq with rfl | rfl | rfl | rfl | rfl
  · have HM := Lib.hid (MapF.new w)
    have HB := Lib.hid ((Below.refl w.heap.size w).alloc (Nat.le_refl _) (.map #[] 0))
    go_enter Tryz.func49, Tryz.ntmps49
    go_wp2_with (refine wp_insertF rfl _ _ _ 92 rfl 9 1 Tryz.underlying92 Tryz.underlying9 w.heap.size _ _ _ HM.out rfl rfl rfl rfl ?_; intro w1 hm1 hb1; (replace HM := Lib.hid hm1); (replace HB := Lib.hid (HB.out.trans (hb1 _ (Nat.le_refl _)))); clear hm1 hb1)
    go_ret
    exact ⟨rfl, HM.out, HB.out⟩
  · go_enter Tryz.func49, Tryz.ntmps49
    go_wp2_with (go_at_call 110; refine (erasableEffects_any g _).mono ?_; rintro e w1 ⟨rfl, hm, hb⟩)
    go_ret
    exact ⟨rfl, hm, hb⟩
  · have HM := Lib.hid (MapF.new w)
    have HB := Lib.hid ((Below.refl w.heap.size w).alloc (Nat.le_refl _) (.map #[] 0))
    go_enter Tryz.func49, Tryz.ntmps49
    go_wp2_with (refine wp_insertF rfl _ _ _ 92 rfl 9 1 Tryz.underlying92 Tryz.underlying9 w.heap.size _ _ _ HM.out rfl rfl rfl rfl ?_; intro w1 hm1 hb1; (replace HM := Lib.hid hm1); (replace HB := Lib.hid (HB.out.trans (hb1 _ (Nat.le_refl _)))); clear hm1 hb1)
    go_ret
    exact ⟨rfl, HM.out, HB.out⟩
  · have HM := Lib.hid (MapF.new w)
    have HB := Lib.hid ((Below.refl w.heap.size w).alloc (Nat.le_refl _) (.map #[] 0))
    go_enter Tryz.func49, Tryz.ntmps49
    go_wp2_with (refine wp_insertF rfl _ _ _ 92 rfl 9 1 Tryz.underlying92 Tryz.underlying9 w.heap.size _ _ _ HM.out rfl rfl rfl rfl ?_; intro w1 hm1 hb1; (replace HM := Lib.hid hm1); (replace HB := Lib.hid (HB.out.trans (hb1 _ (Nat.le_refl _)))); clear hm1 hb1)
    go_ret
    exact ⟨rfl, HM.out, HB.out⟩
  · have HM := Lib.hid (MapF.new w)
    have HB := Lib.hid ((Below.refl w.heap.size w).alloc (Nat.le_refl _) (.map #[] 0))
    go_enter Tryz.func49, Tryz.ntmps49
    go_wp2_with (refine wp_insertF rfl _ _ _ 92 rfl 9 1 Tryz.underlying92 Tryz.underlying9 w.heap.size _ _ _ HM.out rfl rfl rfl rfl ?_; intro w1 hm1 hb1; (replace HM := Lib.hid hm1); (replace HB := Lib.hid (HB.out.trans (hb1 _ (Nat.le_refl _)))); clear hm1 hb1)
    go_ret
    exact ⟨rfl, HM.out, HB.out⟩
end Go.Proofs.YtfndbdcapliclaaGreatDoor
