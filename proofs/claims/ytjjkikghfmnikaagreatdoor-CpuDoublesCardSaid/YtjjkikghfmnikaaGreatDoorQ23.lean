/- Contracts of layer 5: the maps of the effects. -/
import Derived.Test.YtjjkikghfmnikaaGreatDoorQ22
set_option linter.unusedSimpArgs false
set_option linter.unusedVariables false
set_option maxRecDepth 100000
namespace Go.Proofs.YtjjkikghfmnikaaGreatDoor
open Go.ChangeShapes Go.WideShapes Go.ChangeAt Go.RowKit
/-- The method of instruction i. -/
def efn (i : Nat) : FuncId :=
  match i with
  | 0 => 95 | 1 => 88 | 2 => 89 | 3 => 90 | 4 => 160 | 5 => 92 | 6 => 161 | 7 => 162 | 8 => 163 | 9 => 164
  | 10 => 96 | 11 => 97 | 12 => 156 | 13 => 91 | 14 => 165 | 15 => 166 | 16 => 167 | 17 => 98 | 18 => 99 | 19 => 104
  | 20 => 105 | 21 => 106 | 22 => 107 | 23 => 108 | 24 => 109 | 25 => 110 | 26 => 111 | 27 => 168 | 28 => 93 | 29 => 169
  | 30 => 170 | 31 => 171 | 32 => 172 | 33 => 100 | 34 => 101 | 35 => 102 | 36 => 173 | 37 => 94 | _ => 103
def entry (g : Nat) (i : Nat) : ByteArray × Value := (nm i, .func (.func (efn i)) #[.pointer (some ⟨g, 0, none⟩)] #[])
/-- The instructions of a kind, as their map lists them. -/
def kindL (q : Int) : List Nat :=
  if q = 0 then [1, 2, 3, 13] else if q = 2 then [5, 28, 37] else if q = 3 then [0, 10, 11, 17, 18, 33, 34, 35, 38] else if q = 4 then [19, 20, 21, 22, 23, 24, 25, 26]
  else [4, 6, 7, 8, 9, 12, 14, 15, 16, 27, 29, 30, 31, 32, 36]
def tabK (q : Int) (g : Nat) : List (ByteArray × Value) := (kindL q).map (entry g)
theorem look_tab (g i : Nat) (h : i < 39) : ∃ n, look (nm i) (tabK (kd i) g) 0 = some (n, .func (.func (efn i)) #[.pointer (some ⟨g, 0, none⟩)] #[]) := by
  have : i = 0 ∨ i = 1 ∨ i = 2 ∨ i = 3 ∨ i = 4 ∨ i = 5 ∨ i = 6 ∨ i = 7 ∨ i = 8 ∨ i = 9 ∨ i = 10 ∨ i = 11 ∨ i = 12 ∨ i = 13 ∨ i = 14 ∨ i = 15 ∨ i = 16 ∨ i = 17 ∨ i = 18 ∨ i = 19 ∨ i = 20 ∨ i = 21 ∨ i = 22 ∨ i = 23 ∨ i = 24 ∨ i = 25 ∨ i = 26 ∨ i = 27 ∨ i = 28 ∨ i = 29 ∨ i = 30 ∨ i = 31 ∨ i = 32 ∨ i = 33 ∨ i = 34 ∨ i = 35 ∨ i = 36 ∨ i = 37 ∨ i = 38 := by omega
  rcases this with rfl | rfl | rfl | rfl | rfl | rfl | rfl | rfl | rfl | rfl | rfl | rfl | rfl | rfl | rfl | rfl | rfl | rfl | rfl | rfl | rfl | rfl | rfl | rfl | rfl | rfl | rfl | rfl | rfl | rfl | rfl | rfl | rfl | rfl | rfl | rfl | rfl | rfl | rfl
  all_goals exact ⟨_, rfl⟩
set_option maxHeartbeats 4000000 in
theorem erasableEffects_any (g : Nat) (w : World) :
    Calls Tryz.prog 112 #[.pointer (some ⟨g, 0, none⟩)] w fun e w' => e = .returned (.map (some w.heap.size)) ∧ MapF w' w.heap.size (tabK 1 g) ∧ Below w.heap.size w w' := by
  have hmm : ∀ w : World, (Instr.makeMap 97 none).run Tryz.prog w = .ok (.map (some w.heap.size)) (w.alloc (.map #[] 0)) := fun w => by kernel_rfl
  have HM := Lib.hid (MapF.new w)
  have HB := Lib.hid ((Below.refl w.heap.size w).alloc (Nat.le_refl _) (.map #[] 0))
  go_enter Tryz.func112, Tryz.ntmps112
  go_wp2_with (refine wp_insertF rfl _ _ _ 97 rfl 9 1 Tryz.underlying97 Tryz.underlying9 w.heap.size _ _ _ HM.out rfl rfl rfl rfl ?_; intro w1 hm1 hb1; (replace HM := Lib.hid hm1); (replace HB := Lib.hid (HB.out.trans (hb1 _ (Nat.le_refl _)))); clear hm1 hb1)
  go_ret
  exact ⟨rfl, HM.out, HB.out⟩
set_option maxHeartbeats 4000000 in
theorem effects_any (g : Nat) (q : Int) (hq : q = 0 ∨ q = 1 ∨ q = 2 ∨ q = 3 ∨ q = 4) (w : World) :
    Calls Tryz.prog 50 #[.pointer (some ⟨g, 0, none⟩), .int .u8 q] w fun e w' => e = .returned (.map (some w.heap.size)) ∧ MapF w' w.heap.size (tabK q g) ∧ Below w.heap.size w w' := by
  have hmm : ∀ w : World, (Instr.makeMap 97 none).run Tryz.prog w = .ok (.map (some w.heap.size)) (w.alloc (.map #[] 0)) := fun w => by kernel_rfl
  rcases hq with rfl | rfl | rfl | rfl | rfl
  · have HM := Lib.hid (MapF.new w)
    have HB := Lib.hid ((Below.refl w.heap.size w).alloc (Nat.le_refl _) (.map #[] 0))
    go_enter Tryz.func50, Tryz.ntmps50
    go_wp2_with (refine wp_insertF rfl _ _ _ 97 rfl 9 1 Tryz.underlying97 Tryz.underlying9 w.heap.size _ _ _ HM.out rfl rfl rfl rfl ?_; intro w1 hm1 hb1; (replace HM := Lib.hid hm1); (replace HB := Lib.hid (HB.out.trans (hb1 _ (Nat.le_refl _)))); clear hm1 hb1)
    go_ret
    exact ⟨rfl, HM.out, HB.out⟩
  · go_enter Tryz.func50, Tryz.ntmps50
    go_wp2_with (go_at_call 112; refine (erasableEffects_any g _).mono ?_; rintro e w1 ⟨rfl, hm, hb⟩)
    go_ret
    exact ⟨rfl, hm, hb⟩
  · have HM := Lib.hid (MapF.new w)
    have HB := Lib.hid ((Below.refl w.heap.size w).alloc (Nat.le_refl _) (.map #[] 0))
    go_enter Tryz.func50, Tryz.ntmps50
    go_wp2_with (refine wp_insertF rfl _ _ _ 97 rfl 9 1 Tryz.underlying97 Tryz.underlying9 w.heap.size _ _ _ HM.out rfl rfl rfl rfl ?_; intro w1 hm1 hb1; (replace HM := Lib.hid hm1); (replace HB := Lib.hid (HB.out.trans (hb1 _ (Nat.le_refl _)))); clear hm1 hb1)
    go_ret
    exact ⟨rfl, HM.out, HB.out⟩
  · have HM := Lib.hid (MapF.new w)
    have HB := Lib.hid ((Below.refl w.heap.size w).alloc (Nat.le_refl _) (.map #[] 0))
    go_enter Tryz.func50, Tryz.ntmps50
    go_wp2_with (refine wp_insertF rfl _ _ _ 97 rfl 9 1 Tryz.underlying97 Tryz.underlying9 w.heap.size _ _ _ HM.out rfl rfl rfl rfl ?_; intro w1 hm1 hb1; (replace HM := Lib.hid hm1); (replace HB := Lib.hid (HB.out.trans (hb1 _ (Nat.le_refl _)))); clear hm1 hb1)
    go_ret
    exact ⟨rfl, HM.out, HB.out⟩
  · have HM := Lib.hid (MapF.new w)
    have HB := Lib.hid ((Below.refl w.heap.size w).alloc (Nat.le_refl _) (.map #[] 0))
    go_enter Tryz.func50, Tryz.ntmps50
    go_wp2_with (refine wp_insertF rfl _ _ _ 97 rfl 9 1 Tryz.underlying97 Tryz.underlying9 w.heap.size _ _ _ HM.out rfl rfl rfl rfl ?_; intro w1 hm1 hb1; (replace HM := Lib.hid hm1); (replace HB := Lib.hid (HB.out.trans (hb1 _ (Nat.le_refl _)))); clear hm1 hb1)
    go_ret
    exact ⟨rfl, HM.out, HB.out⟩
end Go.Proofs.YtjjkikghfmnikaaGreatDoor
