/- Contracts of layer 5: the program's Step. -/
import Derived.Test.YtjjkikghfmnikaaGreatDoorQ23
set_option linter.unusedSimpArgs false
set_option linter.unusedVariables false
set_option maxRecDepth 100000
namespace Go.Proofs.YtjjkikghfmnikaaGreatDoor
open Go.ChangeShapes Go.WideShapes Go.ChangeAt Go.RowKit
/-- The method f does to an instruction in memory what E says. -/
def EffC (f : FuncId) (E : St → Vw → St) (rd : Bool) : Prop := ∀ (B g : Nat) (s : St) (v : Vw) (ea : Option Addr) (ec : Nat) (fa : Option Addr) (fc : Nat) (ca : Option Addr) (cc : Nat) (w : World), s.len ≤ 900 → HAt w B g s false v ea ec fa fc ca cc →
  Calls Tryz.prog f #[.pointer (some ⟨g, 0, none⟩)] w fun e w' => e = .returned (.tuple #[]) ∧ HAt w' B g (E s v) rd v ea ec fa fc ca cc ∧ Below B w w'
def dnL (vC vO vR : Value) (c p : Int) : List Value := [vC, vO, vR, .int .i64 c, .int .u8 p]
def dnL0 : List Value := dnL (.slice none 0 0) (.slice none 0 0) (.slice none 0 0) 0 0
def StepRet (s : St) (w : World) (e : Ending) (w' : World) : Prop := ∃ vC vO vR, e = .returned (.tuple #[.agg (rgList s.r).toArray, .agg (dnL vC vO vR s.cyc s.op).toArray, .int .i64 0]) ∧
  OwnP .i64 .u16 56 w' w.heap.size vC s.cells ∧ OwnP .i64 .u16 56 w' w.heap.size vO s.outs ∧ OwnP .u8 .i64 59 w' w.heap.size vR s.reads ∧ Below w.heap.size w w'
def StepErr (er : Int) (w : World) (e : Ending) (w' : World) : Prop := e = .returned (.tuple #[.agg (rgList rg0).toArray, .agg dnL0.toArray, .int .i64 er]) ∧ Below w.heap.size w w'
/-- The instruction as Step begins it. -/
def stp0 (r : Rg) (i : Nat) (k : Int) : St := { r := fRg r, cells := [], outs := [], reads := fRds r, cyc := cy i, op := (i : Int) + 1, k := k, ss := spS (fRg r) k, sa := spA (fRg r) k }
def stp4 (w : World) (r : Rg) (ea : Option Addr) (ec : Nat) (fa : Option Addr) (fc : Nat) (ca : Option Addr) (cc : Nat) (v : Vw) : World := (((w.alloc (.cells (rgList r).toArray 26)).alloc (.cells [.slice ea v.ne ec, .slice fa v.nf fc, .slice ca v.nc cc].toArray 29)).alloc (.cells (rgList rg0).toArray 26)).alloc (.cells dnL0.toArray 48)
theorem stp4_facts (w : World) (r : Rg) (ea : Option Addr) (ec : Nat) (fa : Option Addr) (fc : Nat) (ca : Option Addr) (cc : Nat) (v : Vw) : Blk (stp4 w r ea ec fa fc ca cc v) w.heap.size (rgList r) ∧ Blk (stp4 w r ea ec fa fc ca cc v) (w.heap.size + 1) [.slice ea v.ne ec, .slice fa v.nf fc, .slice ca v.nc cc] ∧ Blk (stp4 w r ea ec fa fc ca cc v) (w.heap.size + 1 + 1) (rgList rg0) ∧ Blk (stp4 w r ea ec fa fc ca cc v) (w.heap.size + 1 + 1 + 1) dnL0 ∧ (stp4 w r ea ec fa fc ca cc v).heap.size = w.heap.size + 4 ∧ Below w.heap.size w (stp4 w r ea ec fa fc ca cc v) := by
  unfold stp4
  refine ⟨?_, ?_, ?_, ?_, by simp, ?_⟩
  · exact (((Blk.new _ _ _ _ rfl).alloc (by simp) _).alloc (by simp; try omega) _).alloc (by simp; try omega) _
  · exact ((Blk.new _ _ _ _ (by simp)).alloc (by simp) _).alloc (by simp; try omega) _
  · exact (Blk.new _ _ _ _ (by simp)).alloc (by simp) _
  · exact Blk.new _ _ _ _ (by simp)
  · exact (below3 _ _ _ _).alloc (by simp; try omega) _
theorem results_step {fn : Func} {p q x : Tmp} {T T' : TypeId} (h : fn.results = #[.cell p T, .cell q T', .tmp x]) (tmps : Array Value) (P : Program) (w : World) :
    (results fn tmps).run P w =
      ((asAddr (tmps.getD p undef)).run P w).andThen fun a w₁ => ((loadVar T a).run P w₁).andThen fun y w₂ => ((asAddr (tmps.getD q undef)).run P w₂).andThen fun b w₃ => ((loadVar T' b).run P w₃).andThen fun z w₄ => .ok (.tuple #[y, z, tmps.getD x undef]) w₄ := by
  simp only [results, h]
  simp [Sem.run_bind, Result.andThen]
theorem ret_step {P : Program} {fn : Func} {R : Ending → World → Prop} {a : Act} {w : World} {p q x : Tmp} {T T' : TypeId} {fs fs' : Array Field} (hres : fn.results = #[.cell p T, .cell q T', .tmp x]) (ht : P.underlying T = some (.struct fs)) (ht' : P.underlying T' = some (.struct fs'))
    (cs cs' : List Value) (hi : (P.info? T).map (·.size) = some cs.length) (hi' : (P.info? T').map (·.size) = some cs'.length) (g g' : Nat) (vx : Value)
    (hR : R (.returned (.tuple #[.agg cs.toArray, .agg cs'.toArray, vx])) w)
    (hc : Blk w g cs) (hc' : Blk w g' cs')
    (hp : a.tmps.getD p undef = .pointer (some ⟨g, 0, none⟩)) (hq : a.tmps.getD q undef = .pointer (some ⟨g', 0, none⟩))
    (hx : a.tmps.getD x undef = vx) (hd : a.defers = []) : bodyPost P fn R .ret a w := by
  refine bodyPost_ret ?_ hd hR
  rw [results_step hres, hp, hq, hx]
  simp [asAddr, Sem.run_bind, Result.andThen, run_loadVar_struct ht cs hi w g hc.cells, run_loadVar_struct ht' cs' hi' w g' hc'.cells]
/-- Fetching fails. -/
def badF (r : Rg) : Prop := ¬ r.may ∨ (r.may ∧ r.Hd = false ∧ ¬ has r r.Z)
set_option maxHeartbeats 2000000 in
theorem mStep_err (r : Rg) (hf : r.Fit) (h : badF r) (er : Int) (her : er = if r.may then 3 else 2) (v : Vw) (ea : Option Addr) (ec : Nat) (fa : Option Addr) (fc : Nat) (ca : Option Addr) (cc : Nat) (w : World) :
    Calls Tryz.prog 19 #[.agg #[.int .u16 r.A, .int .u16 r.L, .int .u16 r.Q, .int .i64 r.Z, .int .i64 r.EB, .int .i64 r.FB, .int .i64 r.Su, .bool r.Ex, .int .u16 r.Ix, .bool r.Hd, .int .u16 r.B, .bool r.Ih, .bool r.Sv], .agg #[.slice ea v.ne ec, .slice fa v.nf fc, .slice ca v.nc cc]] w (StepErr er w) := by
  have hN := Lib.hid (fun w => mFetch_err r hf h er her v ea ec fa fc ca cc w)
  have hne : (er == 0) = false := by rw [beq_eq_false_iff_ne]; split at her <;> omega
  have K := Lib.hid (stp4_facts w r ea ec fa fc ca cc v)
  clear h her hf
  go_enter Tryz.func19, Tryz.ntmps19
  go_upto_region 1 with (fail)
  change Code.wp _ _ _ _ (stp4 w r ea ec fa fc ca cc v)
  obtain ⟨k1, k2, k3, k4, k5, k6⟩ := K.out
  generalize stp4 w r ea ec fa fc ca cc v = W at k1 k2 k3 k4 k5 k6 ⊢
  have c0 := k1.cell 0 _ rfl; have c1 := k1.cell 1 _ rfl; have c2 := k1.cell 2 _ rfl; have c3 := k1.cell 3 _ rfl; have c4 := k1.cell 4 _ rfl; have c5 := k1.cell 5 _ rfl; have c6 := k1.cell 6 _ rfl; have c7 := k1.cell 7 _ rfl; have c8 := k1.cell 8 _ rfl; have c9 := k1.cell 9 _ rfl; have c10 := k1.cell 10 _ rfl; have c11 := k1.cell 11 _ rfl; have c12 := k1.cell 12 _ rfl; have d0 := k2.cell 0 _ rfl; have d1 := k2.cell 1 _ rfl; have d2 := k2.cell 2 _ rfl
  clear K
  have Y0 := Lib.hid k6
  have K1 := Lib.hid k1
  have K3 := Lib.hid k3
  have K4 := Lib.hid k4
  clear k1 k2 k3 k4 k6
  go_upto_region 2 with (go_at_call 16; refine (hN.out _).mono ?_; rintro e w1 ⟨rfl, hb⟩; (have Q1 := K1.out.below hb (by omega)); (have Q2 := Lib.hid (K3.out.below hb (by omega))); (have Q3 := Lib.hid (K4.out.below hb (by omega))); (have X1 := Lib.hid (Y0.out.trans (hb.mono Y0.out.size))); (have hz1 : w.heap.size + 4 ≤ w1.heap.size := by have := hb.size; omega); (have hz2 : w.heap.size < w1.heap.size := by omega); clear hb; have a0 := Q1.cell 0 _ rfl; have a1 := Q1.cell 1 _ rfl; have a2 := Q1.cell 2 _ rfl; have a3 := Q1.cell 3 _ rfl; have a4 := Q1.cell 4 _ rfl; have a5 := Q1.cell 5 _ rfl; have a6 := Q1.cell 6 _ rfl; have a7 := Q1.cell 7 _ rfl; have a8 := Q1.cell 8 _ rfl; have a9 := Q1.cell 9 _ rfl; have a10 := Q1.cell 10 _ rfl; have a11 := Q1.cell 11 _ rfl; have a12 := Q1.cell 12 _ rfl; have b0 := Q1.free 0 _ rfl; have b1 := Q1.free 1 _ rfl; have b2 := Q1.free 2 _ rfl; have b3 := Q1.free 3 _ rfl; have b4 := Q1.free 4 _ rfl; have b5 := Q1.free 5 _ rfl; have b6 := Q1.free 6 _ rfl; have b7 := Q1.free 7 _ rfl; have b8 := Q1.free 8 _ rfl; have b9 := Q1.free 9 _ rfl; have b10 := Q1.free 10 _ rfl; have b11 := Q1.free 11 _ rfl; have b12 := Q1.free 12 _ rfl)
  clear c0 c1 c2 c3 c4 c5 c6 c7 c8 c9 c10 c11 c12 d0 d1 d2 a0 a1 a2 a3 a4 a5 a6 a7 a8 a9 a10 a11 a12 b0 b1 b2 b3 b4 b5 b6 b7 b8 b9 b10 b11 b12
  change Code.wp _ _ _ _ ((setAll w1 w.heap.size 0 (rgList rg0)).alloc (.cells opL0.toArray 41))
  have Z2 := (Q2.out.others (show w.heap.size ≠ w.heap.size + 1 + 1 by omega) (rgList rg0) _ 0).alloc (by rw [setAll_size]; omega) (.cells opL0.toArray 41)
  have Z3 := (Q3.out.others (show w.heap.size ≠ w.heap.size + 1 + 1 + 1 by omega) (rgList rg0) _ 0).alloc (by rw [setAll_size]; omega) (.cells opL0.toArray 41)
  have ZX := Lib.hid ((below_setAll w.heap.size (Nat.le_refl _) (rgList rg0) _ 0 X1.out).alloc (by rw [setAll_size]; omega) (.cells opL0.toArray 41))
  generalize (setAll w1 w.heap.size 0 (rgList rg0)).alloc (.cells opL0.toArray 41) = V at Z2 Z3 ZX ⊢
  have p0 := Z2.cell 0 _ rfl; have p1 := Z2.cell 1 _ rfl; have p2 := Z2.cell 2 _ rfl; have p3 := Z2.cell 3 _ rfl; have p4 := Z2.cell 4 _ rfl; have p5 := Z2.cell 5 _ rfl; have p6 := Z2.cell 6 _ rfl; have p7 := Z2.cell 7 _ rfl; have p8 := Z2.cell 8 _ rfl; have p9 := Z2.cell 9 _ rfl; have p10 := Z2.cell 10 _ rfl; have p11 := Z2.cell 11 _ rfl; have p12 := Z2.cell 12 _ rfl; have q0 := Z2.free 0 _ rfl; have q1 := Z2.free 1 _ rfl; have q2 := Z2.free 2 _ rfl; have q3 := Z2.free 3 _ rfl; have q4 := Z2.free 4 _ rfl; have q5 := Z2.free 5 _ rfl; have q6 := Z2.free 6 _ rfl; have q7 := Z2.free 7 _ rfl; have q8 := Z2.free 8 _ rfl; have q9 := Z2.free 9 _ rfl; have q10 := Z2.free 10 _ rfl; have q11 := Z2.free 11 _ rfl; have q12 := Z2.free 12 _ rfl; have m0 := Z3.cell 0 _ rfl; have m1 := Z3.cell 1 _ rfl; have m2 := Z3.cell 2 _ rfl; have m3 := Z3.cell 3 _ rfl; have m4 := Z3.cell 4 _ rfl; have o0 := Z3.free 0 _ rfl; have o1 := Z3.free 1 _ rfl; have o2 := Z3.free 2 _ rfl; have o3 := Z3.free 3 _ rfl; have o4 := Z3.free 4 _ rfl
  have H2 := Lib.hid Z2
  have H3 := Lib.hid Z3
  clear Z2 Z3 Q1
  go_wp2
  clear p0 p1 p2 p3 p4 p5 p6 p7 p8 p9 p10 p11 p12 q0 q1 q2 q3 q4 q5 q6 q7 q8 q9 q10 q11 q12 m0 m1 m2 m3 m4 o0 o1 o2 o3 o4
  change bodyPost _ _ _ _ _ (setAll (setAll V (w.heap.size + 1 + 1) 0 (rgList rg0)) (w.heap.size + 1 + 1 + 1) 0 dnL0)
  have Y2 := ((H2.out.over (rgList rg0) rfl).others (show w.heap.size + 1 + 1 + 1 ≠ w.heap.size + 1 + 1 by omega) dnL0 _ 0)
  have Y3 := ((H3.out.others (show w.heap.size + 1 + 1 ≠ w.heap.size + 1 + 1 + 1 by omega) (rgList rg0) _ 0).over dnL0 rfl)
  have YX := below_setAll (w.heap.size + 1 + 1 + 1) (by omega) dnL0 _ 0 (below_setAll (w.heap.size + 1 + 1) (by omega) (rgList rg0) _ 0 ZX.out)
  generalize setAll (setAll V (w.heap.size + 1 + 1) 0 (rgList rg0)) (w.heap.size + 1 + 1 + 1) 0 dnL0 = U at Y2 Y3 YX ⊢
  exact ret_step Tryz.results19 Tryz.underlying26 Tryz.underlying48 (rgList rg0) dnL0 (by kernel_rfl) (by kernel_rfl) (w.heap.size + 1 + 1) (w.heap.size + 1 + 1 + 1) (.int .i64 er) ⟨rfl, YX⟩ Y2 Y3 rfl rfl rfl rfl
end Go.Proofs.YtjjkikghfmnikaaGreatDoor
