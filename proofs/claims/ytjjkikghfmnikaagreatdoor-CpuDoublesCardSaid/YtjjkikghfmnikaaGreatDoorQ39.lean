/- Layer 5: the statements' registers and view. -/
import Derived.Test.YtjjkikghfmnikaaGreatDoorQ38
set_option linter.unusedSimpArgs false
set_option linter.unusedVariables false
set_option maxRecDepth 100000
namespace Go.Proofs.YtjjkikghfmnikaaGreatDoor
open Go.ChangeShapes Go.WideShapes Go.ChangeAt Go.RowKit
def vAt (p x y : Int) : Vw := { ne := 102, ze := fun i => if i = 101 then y else if i = 100 then x else 0, nf := 2049, zf := fun i => if i = 2048 then p else 0, nc := 0, zc := fun _ => 0 }
def rAt : Rg := { rg0 with Z := 2048 }
def AtRet (p x y : Int) (w : World) (e : Ending) (w' : World) : Prop := ∃ g1 g2 : Nat, e = .returned (.tuple #[.agg (rgList rAt).toArray, .agg #[.slice (some ⟨g2, 0, none⟩) 102 102, .slice (some ⟨g1, 0, none⟩) 2049 2049, .slice none 0 0]]) ∧
  VwAt w' (vAt p x y) (some ⟨g2, 0, none⟩) (some ⟨g1, 0, none⟩) none ∧ w.heap.size ≤ g1 ∧ w.heap.size ≤ g2 ∧ g1 ≠ g2 ∧ Arr .u16 24 w' g1 g1 2049 2049 (vAt p x y).zf ∧ Arr .u16 24 w' g2 g2 102 102 (vAt p x y).ze ∧ Below w.heap.size w w'
theorem results_at {fn : Func} {p q : Tmp} {T T' : TypeId} (h : fn.results = #[.cell p T, .cell q T']) (tmps : Array Value) (P : Program) (w : World) :
    (results fn tmps).run P w =
      ((asAddr (tmps.getD p undef)).run P w).andThen fun a w₁ => ((loadVar T a).run P w₁).andThen fun y w₂ => ((asAddr (tmps.getD q undef)).run P w₂).andThen fun b w₃ => ((loadVar T' b).run P w₃).andThen fun z w₄ => .ok (.tuple #[y, z]) w₄ := by
  simp only [results, h]
  simp [Sem.run_bind, Result.andThen]
theorem ret_at {P : Program} {fn : Func} {R : Ending → World → Prop} {a : Act} {w : World} {p q : Tmp} {T T' : TypeId} {fs fs' : Array Field} (hres : fn.results = #[.cell p T, .cell q T']) (ht : P.underlying T = some (.struct fs)) (ht' : P.underlying T' = some (.struct fs'))
    (cs cs' : List Value) (hi : (P.info? T).map (·.size) = some cs.length) (hi' : (P.info? T').map (·.size) = some cs'.length) (g g' : Nat)
    (hR : R (.returned (.tuple #[.agg cs.toArray, .agg cs'.toArray])) w)
    (hc : Blk w g cs) (hc' : Blk w g' cs')
    (hp : a.tmps.getD p undef = .pointer (some ⟨g, 0, none⟩)) (hq : a.tmps.getD q undef = .pointer (some ⟨g', 0, none⟩)) (hd : a.defers = []) : bodyPost P fn R .ret a w := by
  refine bodyPost_ret ?_ hd hR
  rw [results_at hres, hp, hq]
  simp [asAddr, Sem.run_bind, Result.andThen, run_loadVar_struct ht cs hi w g hc.cells, run_loadVar_struct ht' cs' hi' w g' hc'.cells]
theorem Arr.setAll_other {k : IntKind} {T : TypeId} {B g n c : Nat} {f : Nat → Int} {g' : Nat} (hg : g ≠ g') : ∀ (m : List Value) (w : World) (j : Nat), Arr k T w B g n c f → Arr k T (setAll w g' j m) B g n c f
  | [], _, _, h => h
  | x :: m, w, j, h => Arr.setAll_other hg m _ (j + 1) (h.other (p := ⟨g', j, none⟩) hg x)
theorem info_word : (Tryz.prog.info? 24).map (fun i => (i.zero, i.size, i.bytes)) = some (some (.int .u16 0), 1, 2) := by kernel_rfl
set_option maxHeartbeats 2000000 in
theorem at_any (p x y : Int) (p0 : 0 ≤ p ∧ p ≤ 65535) (x0 : 0 ≤ x ∧ x ≤ 65535) (y0 : 0 ≤ y ∧ y ≤ 65535) (w : World) :
    Calls Tryz.prog 25 #[.int .u16 p, .int .u16 x, .int .u16 y] w (AtRet p x y w) := by
  have K1 := Lib.hid ((Blk.new w 26 (rgList rg0) _ rfl).alloc (by simp) (.cells #[.slice none 0 0, .slice none 0 0, .slice none 0 0] 29))
  have K2 := Lib.hid (Blk.new (w.alloc (.cells (rgList rg0).toArray 26)) 29 [.slice none 0 0, .slice none 0 0, .slice none 0 0] (w.heap.size + 1) (by simp))
  have X0 := Lib.hid (below2 w (.cells (rgList rg0).toArray 26) (.cells #[.slice none 0 0, .slice none 0 0, .slice none 0 0] 29))
  go_enter Tryz.func25, Tryz.ntmps25
  go_upto_region 1 with (fail)
  change Code.wp _ _ _ _ ((w.alloc (.cells (rgList rg0).toArray 26)).alloc (.cells #[.slice none 0 0, .slice none 0 0, .slice none 0 0] 29))
  have hz0 : ((w.alloc (.cells (rgList rg0).toArray 26)).alloc (.cells #[.slice none 0 0, .slice none 0 0, .slice none 0 0] 29)).heap.size = w.heap.size + 2 := by simp
  have k1 := K1.out
  have k2 := K2.out
  have x0' := X0.out
  change Blk ((w.alloc (.cells (rgList rg0).toArray 26)).alloc (.cells #[.slice none 0 0, .slice none 0 0, .slice none 0 0] 29)) _ _ at k2
  generalize (w.alloc (.cells (rgList rg0).toArray 26)).alloc (.cells #[.slice none 0 0, .slice none 0 0, .slice none 0 0] 29) = W at hz0 k1 k2 x0' ⊢
  have HZ := Lib.hid hz0
  have R1 := Lib.hid k1
  have R2 := Lib.hid k2
  have Y0 := Lib.hid x0'
  clear K1 K2 X0 hz0 k1 k2 x0'
  go_wp2_with (first
    | (at_make; refine make_full _ _ rfl _ _ 27 rfl .u16 24 2 Tryz.underlying27 info_word _ 2049 rfl rfl (by decide) (by decide) (Below.refl _ _) (Nat.le_refl _) ?_; intro w1 hown1 hb1 hs1; (have A1 := Arr.of_own hown1 (lst_replicate 2049 0)); (have c1 := A1.cell (j := 2048) (by omega)); (have f1 := A1.free 2048); (have O1 := Lib.hid A1); (have B1 := Lib.hid hb1); clear hown1 hb1 A1)
    | (at_make; refine make_full _ _ rfl _ _ 27 rfl .u16 24 2 Tryz.underlying27 info_word _ 102 rfl rfl (by decide) (by decide) (Below.refl _ _) (Nat.le_refl _) ?_; intro w2 hown2 hb2 hs2; (have hsz : (w1.setCell ⟨W.heap.size, 2048, none⟩ (.int .u16 p)).heap.size = w1.heap.size := by simp); rw [hsz] at hown2 hs2 hb2; (have A2 := Arr.of_own hown2 (lst_replicate 102 0)); (have d1 := A2.cell (j := 100) (by omega)); (have e1 := A2.free 100); (have d2 := A2.cell (j := 101) (by omega)); (have e2 := A2.free 101); (have O2 := Lib.hid A2); (have B2 := Lib.hid hb2); (have hq : w.heap.size + 2 = W.heap.size := HZ.out.symm); (have S1 := ((R1.out.below B1.out (by omega)).other (show W.heap.size ≠ w.heap.size by omega) 2048 (.int .u16 p)).below hb2 (by omega)); (have S2 := ((R2.out.below B1.out (by omega)).other (show W.heap.size ≠ w.heap.size + 1 by omega) 2048 (.int .u16 p)).below hb2 (by omega)); (have T1 := Lib.hid S1); (have T2 := Lib.hid S2); clear hown2 hb2 A2 hsz hq; have m0 := S1.cell 0 _ rfl; have m1 := S1.cell 1 _ rfl; have m2 := S1.cell 2 _ rfl; have m3 := S1.cell 3 _ rfl; have m4 := S1.cell 4 _ rfl; have m5 := S1.cell 5 _ rfl; have m6 := S1.cell 6 _ rfl; have m7 := S1.cell 7 _ rfl; have m8 := S1.cell 8 _ rfl; have m9 := S1.cell 9 _ rfl; have m10 := S1.cell 10 _ rfl; have m11 := S1.cell 11 _ rfl; have m12 := S1.cell 12 _ rfl; have n0 := S1.free 0 _ rfl; have n1 := S1.free 1 _ rfl; have n2 := S1.free 2 _ rfl; have n3 := S1.free 3 _ rfl; have n4 := S1.free 4 _ rfl; have n5 := S1.free 5 _ rfl; have n6 := S1.free 6 _ rfl; have n7 := S1.free 7 _ rfl; have n8 := S1.free 8 _ rfl; have n9 := S1.free 9 _ rfl; have n10 := S1.free 10 _ rfl; have n11 := S1.free 11 _ rfl; have n12 := S1.free 12 _ rfl; have q0 := S2.cell 0 _ rfl; have q1 := S2.cell 1 _ rfl; have q2 := S2.cell 2 _ rfl; have s0 := S2.free 0 _ rfl; have s1 := S2.free 1 _ rfl; have s2 := S2.free 2 _ rfl; clear S1 S2)
    | fail)
  change bodyPost _ _ _ _ _ (setAll (setAll ((w2.setCell ⟨w1.heap.size, 100, none⟩ (.int .u16 x)).setCell ⟨w1.heap.size, 101, none⟩ (.int .u16 y)) w.heap.size 0 (rgList rAt)) (w.heap.size + 1) 0 [.slice (some ⟨w1.heap.size, 0, none⟩) 102 102, .slice (some ⟨W.heap.size, 0, none⟩) 2049 2049, .slice none 0 0])
  clear m0 m1 m2 m3 m4 m5 m6 m7 m8 m9 m10 m11 m12 n0 n1 n2 n3 n4 n5 n6 n7 n8 n9 n10 n11 n12 q0 q1 q2 s0 s1 s2 c1 f1 d1 d2 e1 e2
  have hq : w.heap.size + 2 = W.heap.size := HZ.out.symm
  have F1 := ((((O1.out.set 2048 p).below B2.out (by simp)).other (p := ⟨w1.heap.size, 100, none⟩) (show W.heap.size ≠ w1.heap.size by omega) (.int .u16 x)).other (p := ⟨w1.heap.size, 101, none⟩) (show W.heap.size ≠ w1.heap.size by omega) (.int .u16 y))
  have F2 := ((O2.out.set 100 x).set 101 y)
  have X2 := (((Y0.out.trans (B1.out.mono (by omega))).setCell (p := ⟨W.heap.size, 2048, none⟩) (show w.heap.size ≤ W.heap.size by omega) (.int .u16 p)).trans (B2.out.mono (by omega))).setCell (p := ⟨w1.heap.size, 100, none⟩) (show w.heap.size ≤ w1.heap.size by omega) (.int .u16 x) |>.setCell (p := ⟨w1.heap.size, 101, none⟩) (show w.heap.size ≤ w1.heap.size by omega) (.int .u16 y)
  have G1 := Arr.setAll_other (show W.heap.size ≠ w.heap.size + 1 by omega) [.slice (some ⟨w1.heap.size, 0, none⟩) 102 102, .slice (some ⟨W.heap.size, 0, none⟩) 2049 2049, .slice none 0 0] _ 0 (Arr.setAll_other (show W.heap.size ≠ w.heap.size by omega) (rgList rAt) _ 0 F1)
  have G2 := Arr.setAll_other (show w1.heap.size ≠ w.heap.size + 1 by omega) [.slice (some ⟨w1.heap.size, 0, none⟩) 102 102, .slice (some ⟨W.heap.size, 0, none⟩) 2049 2049, .slice none 0 0] _ 0 (Arr.setAll_other (show w1.heap.size ≠ w.heap.size by omega) (rgList rAt) _ 0 F2)
  have X3 := below_setAll (w.heap.size + 1) (by omega) [.slice (some ⟨w1.heap.size, 0, none⟩) 102 102, .slice (some ⟨W.heap.size, 0, none⟩) 2049 2049, .slice none 0 0] _ 0 (below_setAll w.heap.size (Nat.le_refl _) (rgList rAt) _ 0 X2)
  have L1 := (((T1.out.other (show w1.heap.size ≠ w.heap.size by omega) 100 (.int .u16 x)).other (show w1.heap.size ≠ w.heap.size by omega) 101 (.int .u16 y)).over (rgList rAt) rfl).others (show w.heap.size + 1 ≠ w.heap.size by omega) [.slice (some ⟨w1.heap.size, 0, none⟩) 102 102, .slice (some ⟨W.heap.size, 0, none⟩) 2049 2049, .slice none 0 0] _ 0
  have L2 := (((T2.out.other (show w1.heap.size ≠ w.heap.size + 1 by omega) 100 (.int .u16 x)).other (show w1.heap.size ≠ w.heap.size + 1 by omega) 101 (.int .u16 y)).others (show w.heap.size ≠ w.heap.size + 1 by omega) (rgList rAt) _ 0).over [.slice (some ⟨w1.heap.size, 0, none⟩) 102 102, .slice (some ⟨W.heap.size, 0, none⟩) 2049 2049, .slice none 0 0] rfl
  have hne : W.heap.size ≠ w1.heap.size := by omega
  have hl1 : w.heap.size ≤ W.heap.size := by omega
  have hl2 : w.heap.size ≤ w1.heap.size := by omega
  clear O1 O2 B1 B2 T1 T2 F1 F2 X2 R1 R2 Y0 HZ
  generalize setAll (setAll ((w2.setCell ⟨w1.heap.size, 100, none⟩ (.int .u16 x)).setCell ⟨w1.heap.size, 101, none⟩ (.int .u16 y)) w.heap.size 0 (rgList rAt)) (w.heap.size + 1) 0 [.slice (some ⟨w1.heap.size, 0, none⟩) 102 102, .slice (some ⟨W.heap.size, 0, none⟩) 2049 2049, .slice none 0 0] = U at G1 G2 X3 L1 L2 ⊢
  refine ret_at Tryz.results25 Tryz.underlying26 Tryz.underlying29 (rgList rAt) _ (by kernel_rfl) (by kernel_rfl) w.heap.size (w.heap.size + 1)
    ⟨W.heap.size, w1.heap.size, rfl, ⟨G2.row, G1.row, fun i hi => absurd hi (Nat.not_lt_zero _), ?_, ?_, fun i hi => absurd hi (Nat.not_lt_zero _), show (102 : Nat) ≤ 140737488355328 by decide, show (2049 : Nat) ≤ 140737488355328 by decide, show (0 : Nat) ≤ 140737488355328 by decide⟩, hl1, hl2, hne, G1, G2, X3⟩ L1 L2 rfl rfl rfl
  · intro i hi
    show 0 ≤ (if i = 101 then y else if i = 100 then x else 0) ∧ (if i = 101 then y else if i = 100 then x else 0) ≤ 65535
    split
    · exact y0
    · split
      · exact x0
      · omega
  · intro i hi
    show 0 ≤ (if i = 2048 then p else 0) ∧ (if i = 2048 then p else 0) ≤ 65535
    split
    · exact p0
    · omega
end Go.Proofs.YtjjkikghfmnikaaGreatDoor
