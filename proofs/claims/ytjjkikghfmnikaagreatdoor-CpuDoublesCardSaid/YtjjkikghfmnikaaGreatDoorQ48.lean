/- Contracts of layer 7: Enter. -/
import Derived.Test.YtjjkikghfmnikaaGreatDoorQ47
import Derived.Deep.DeepCutAuto
set_option linter.unusedSimpArgs false
set_option linter.unusedVariables false
set_option maxRecDepth 100000
namespace Go.Proofs.YtjjkikghfmnikaaGreatDoor
open Go.ChangeShapes Go.WideShapes Go.ChangeAt Go.RowKit
theorem ret_enter {P : Program} {fn : Func} {R : Ending → World → Prop} {a : Act} {w : World} {p q u v x : Tmp} {T T' : TypeId} {fs fs' : Array Field} (hres : fn.results = #[.cell p T, .cell q T', .tmp u, .tmp v, .tmp x]) (ht : P.underlying T = some (.struct fs)) (ht' : P.underlying T' = some (.struct fs'))
    (cs cs' : List Value) (hi : (P.info? T).map (·.size) = some cs.length) (hi' : (P.info? T').map (·.size) = some cs'.length) (g g' : Nat) (vu vv vx : Value)
    (hR : R (.returned (.tuple #[.agg cs.toArray, .agg cs'.toArray, vu, vv, vx])) w)
    (hc : Blk w g cs) (hc' : Blk w g' cs')
    (hp : a.tmps.getD p undef = .pointer (some ⟨g, 0, none⟩)) (hq : a.tmps.getD q undef = .pointer (some ⟨g', 0, none⟩))
    (hu : a.tmps.getD u undef = vu) (hv : a.tmps.getD v undef = vv) (hx : a.tmps.getD x undef = vx) (hd : a.defers = []) : bodyPost P fn R .ret a w := by
  refine bodyPost_ret ?_ hd hR
  have e : (results fn a.tmps).run P w = ((asAddr (a.tmps.getD p undef)).run P w).andThen fun a₁ w₁ => ((loadVar T a₁).run P w₁).andThen fun y w₂ => ((asAddr (a.tmps.getD q undef)).run P w₂).andThen fun b w₃ => ((loadVar T' b).run P w₃).andThen fun z w₄ => .ok (.tuple #[y, z, a.tmps.getD u undef, a.tmps.getD v undef, a.tmps.getD x undef]) w₄ := by
    simp only [results, hres]
    simp [Sem.run_bind, Result.andThen]
  rw [e, hp, hq, hu, hv, hx]
  simp [asAddr, Sem.run_bind, Result.andThen, run_loadVar_struct ht cs hi w g hc.cells, run_loadVar_struct ht' cs' hi' w g' hc'.cells]
def EnterErr (er : Int) (w : World) (e : Ending) (w' : World) : Prop := e = .returned (.tuple #[.agg #[.int .u16 rg0.A, .int .u16 rg0.L, .int .u16 rg0.Q, .int .i64 rg0.Z, .int .i64 rg0.EB, .int .i64 rg0.FB, .int .i64 rg0.Su, .bool rg0.Ex, .int .u16 rg0.Ix, .bool rg0.Hd, .int .u16 rg0.B, .bool rg0.Ih, .bool rg0.Sv], .agg #[.int .u16 0], .slice none 0 0, .int .i64 0, .int .i64 er]) ∧ Below w.heap.size w w'
/-- The four blocks that Enter begins with. -/
def ent4 (w : World) (r : Rg) (p : Int) : World := (((w.alloc (.cells (rgList r).toArray 26)).alloc (.cells #[.int .u16 p] 77)).alloc (.cells (rgList rg0).toArray 26)).alloc (.cells #[.int .u16 0] 77)
theorem ent4_facts (w : World) (r : Rg) (p : Int) : Blk (ent4 w r p) w.heap.size (rgList r) ∧ Blk (ent4 w r p) (w.heap.size + 1) [.int .u16 p] ∧ Blk (ent4 w r p) (w.heap.size + 1 + 1) (rgList rg0) ∧ Blk (ent4 w r p) (w.heap.size + 1 + 1 + 1) [.int .u16 0] ∧ (ent4 w r p).heap.size = w.heap.size + 4 ∧ Below w.heap.size w (ent4 w r p) := by
  unfold ent4
  refine ⟨?_, ?_, ?_, ?_, by simp, ?_⟩
  · exact (((Blk.new _ _ _ _ rfl).alloc (by simp) _).alloc (by simp; try omega) _).alloc (by simp; try omega) _
  · exact ((Blk.new _ _ [.int .u16 p] _ (by simp)).alloc (by simp) _).alloc (by simp; try omega) _
  · exact (Blk.new _ _ _ _ (by simp)).alloc (by simp) _
  · exact Blk.new _ _ [.int .u16 0] _ (by simp)
  · exact (below3 _ _ _ _).alloc (by simp; try omega) _
set_option maxHeartbeats 1000000 in
theorem Enter_arg (r : Rg) (hm : ¬ r.may) (p nx : Int) (w : World) :
    Calls Tryz.prog 33 #[.agg #[.int .u16 r.A, .int .u16 r.L, .int .u16 r.Q, .int .i64 r.Z, .int .i64 r.EB, .int .i64 r.FB, .int .i64 r.Su, .bool r.Ex, .int .u16 r.Ix, .bool r.Hd, .int .u16 r.B, .bool r.Ih, .bool r.Sv], .agg #[.int .u16 p], .int .u16 nx] w (EnterErr 2 w) := by
  have K := Lib.hid (ent4_facts w r p)
  have hM := Lib.hid (fun w => May_any r false (decide_eq_false hm) w)
  clear hm
  go_enter Tryz.func33, Tryz.ntmps33
  go_upto_region 1 with (fail)
  change Code.wp _ _ _ _ (ent4 w r p)
  obtain ⟨k1, k2, k3, k4, k5, k6⟩ := K.out
  generalize ent4 w r p = W at k1 k2 k3 k4 k5 k6 ⊢
  have c0 := k1.cell 0 _ rfl; have c1 := k1.cell 1 _ rfl; have c2 := k1.cell 2 _ rfl; have c3 := k1.cell 3 _ rfl; have c4 := k1.cell 4 _ rfl; have c5 := k1.cell 5 _ rfl; have c6 := k1.cell 6 _ rfl; have c7 := k1.cell 7 _ rfl; have c8 := k1.cell 8 _ rfl; have c9 := k1.cell 9 _ rfl; have c10 := k1.cell 10 _ rfl; have c11 := k1.cell 11 _ rfl; have c12 := k1.cell 12 _ rfl
  clear K
  go_wp2_with (go_at_call 11; refine (hM.out _).mono ?_; rintro e w1 ⟨rfl, hb⟩; (have Q2 := k3.below hb (by omega)); (have Q3 := k4.below hb (by omega)); (have X1 := Lib.hid (k6.trans (hb.mono k6.size))); (have hz1 : w.heap.size + 4 ≤ w1.heap.size := by have := hb.size; omega); clear hb; have m0 := Q2.cell 0 _ rfl; have m1 := Q2.cell 1 _ rfl; have m2 := Q2.cell 2 _ rfl; have m3 := Q2.cell 3 _ rfl; have m4 := Q2.cell 4 _ rfl; have m5 := Q2.cell 5 _ rfl; have m6 := Q2.cell 6 _ rfl; have m7 := Q2.cell 7 _ rfl; have m8 := Q2.cell 8 _ rfl; have m9 := Q2.cell 9 _ rfl; have m10 := Q2.cell 10 _ rfl; have m11 := Q2.cell 11 _ rfl; have m12 := Q2.cell 12 _ rfl; have o0 := Q2.free 0 _ rfl; have o1 := Q2.free 1 _ rfl; have o2 := Q2.free 2 _ rfl; have o3 := Q2.free 3 _ rfl; have o4 := Q2.free 4 _ rfl; have o5 := Q2.free 5 _ rfl; have o6 := Q2.free 6 _ rfl; have o7 := Q2.free 7 _ rfl; have o8 := Q2.free 8 _ rfl; have o9 := Q2.free 9 _ rfl; have o10 := Q2.free 10 _ rfl; have o11 := Q2.free 11 _ rfl; have o12 := Q2.free 12 _ rfl; (have p0 := Q3.cell 0 _ rfl); (have q0 := Q3.free 0 _ rfl))
  clear m0 m1 m2 m3 m4 m5 m6 m7 m8 m9 m10 m11 m12 o0 o1 o2 o3 o4 o5 o6 o7 o8 o9 o10 o11 o12 c0 c1 c2 c3 c4 c5 c6 c7 c8 c9 c10 c11 c12 p0 q0
  change bodyPost _ _ _ _ _ ((w1.setCells (w.heap.size + 1 + 1) 0 (rgList rg0)).setCells (w.heap.size + 1 + 1 + 1) 0 [.int .u16 0])
  have Z2 := ((Q2.overS (rgList rg0) rfl).othersS (show w.heap.size + 1 + 1 + 1 ≠ w.heap.size + 1 + 1 by omega) [.int .u16 0] 0)
  have Z3 := ((Q3.othersS (show w.heap.size + 1 + 1 ≠ w.heap.size + 1 + 1 + 1 by omega) (rgList rg0) 0).overS [.int .u16 0] rfl)
  have ZX := below_setCells (w.heap.size + 1 + 1 + 1) (by omega) [.int .u16 0] 0 _ (below_setCells (w.heap.size + 1 + 1) (by omega) (rgList rg0) 0 _ X1.out)
  exact ret_enter Tryz.results33 Tryz.underlying26 Tryz.underlying77 (rgList rg0) [.int .u16 0] (by kernel_rfl) (by kernel_rfl) (w.heap.size + 1 + 1) (w.heap.size + 1 + 1 + 1) (.slice none 0 0) (.int .i64 0) (.int .i64 2) ⟨rfl, ZX⟩ Z2 Z3 rfl rfl rfl rfl rfl rfl
set_option maxHeartbeats 1000000 in
theorem Enter_state (r : Rg) (hf : r.Fit) (hm : r.may) (p nx : Int) (hp0 : 0 ≤ p) (hp1 : p < 65536) (h0 : chz p r = 0) (w : World) :
    Calls Tryz.prog 33 #[.agg #[.int .u16 r.A, .int .u16 r.L, .int .u16 r.Q, .int .i64 r.Z, .int .i64 r.EB, .int .i64 r.FB, .int .i64 r.Su, .bool r.Ex, .int .u16 r.Ix, .bool r.Hd, .int .u16 r.B, .bool r.Ih, .bool r.Sv], .agg #[.int .u16 p], .int .u16 nx] w (EnterErr 14 w) := by
  have K := Lib.hid (ent4_facts w r p)
  have hM := Lib.hid (fun w => May_any r true (decide_eq_true hm) w)
  have hC := Lib.hid (fun w => Choose_any p hp0 hp1 r hf 0 h0 false rfl w)
  clear hm
  go_enter Tryz.func33, Tryz.ntmps33
  go_upto_region 1 with (fail)
  change Code.wp _ _ _ _ (ent4 w r p)
  obtain ⟨k1, k2, k3, k4, k5, k6⟩ := K.out
  generalize ent4 w r p = W at k1 k2 k3 k4 k5 k6 ⊢
  have c0 := k1.cell 0 _ rfl; have c1 := k1.cell 1 _ rfl; have c2 := k1.cell 2 _ rfl; have c3 := k1.cell 3 _ rfl; have c4 := k1.cell 4 _ rfl; have c5 := k1.cell 5 _ rfl; have c6 := k1.cell 6 _ rfl; have c7 := k1.cell 7 _ rfl; have c8 := k1.cell 8 _ rfl; have c9 := k1.cell 9 _ rfl; have c10 := k1.cell 10 _ rfl; have c11 := k1.cell 11 _ rfl; have c12 := k1.cell 12 _ rfl
  clear K
  have p0 := k2.cell 0 _ rfl
  go_wp2_with (fail)
  refine (hM.out _).mono ?_
  rintro e w1 ⟨rfl, hb⟩
  have J1 := k1.below hb (by omega)
  have J2 := k2.below hb (by omega)
  have J3 := k3.below hb (by omega)
  have J4 := k4.below hb (by omega)
  have X1 := Lib.hid (k6.trans (hb.mono k6.size))
  have hz1 : w.heap.size + 4 ≤ w1.heap.size := by have := hb.size; omega
  clear hb c0 c1 c2 c3 c4 c5 c6 c7 c8 c9 c10 c11 c12 p0
  have c0 := J1.cell 0 _ rfl; have c1 := J1.cell 1 _ rfl; have c2 := J1.cell 2 _ rfl; have c3 := J1.cell 3 _ rfl; have c4 := J1.cell 4 _ rfl; have c5 := J1.cell 5 _ rfl; have c6 := J1.cell 6 _ rfl; have c7 := J1.cell 7 _ rfl; have c8 := J1.cell 8 _ rfl; have c9 := J1.cell 9 _ rfl; have c10 := J1.cell 10 _ rfl; have c11 := J1.cell 11 _ rfl; have c12 := J1.cell 12 _ rfl
  have p0 := J2.cell 0 _ rfl
  go_wp2_with (go_at_call 68; refine (hC.out _).mono ?_; rintro e w2 ⟨rfl, hb⟩; (have Q2 := J3.below hb (by omega)); (have Q3 := J4.below hb (by omega)); (have X2 := Lib.hid (X1.out.trans (hb.mono X1.out.size))); (have hz2 : w.heap.size + 4 ≤ w2.heap.size := by have := hb.size; omega); clear hb; have m0 := Q2.cell 0 _ rfl; have m1 := Q2.cell 1 _ rfl; have m2 := Q2.cell 2 _ rfl; have m3 := Q2.cell 3 _ rfl; have m4 := Q2.cell 4 _ rfl; have m5 := Q2.cell 5 _ rfl; have m6 := Q2.cell 6 _ rfl; have m7 := Q2.cell 7 _ rfl; have m8 := Q2.cell 8 _ rfl; have m9 := Q2.cell 9 _ rfl; have m10 := Q2.cell 10 _ rfl; have m11 := Q2.cell 11 _ rfl; have m12 := Q2.cell 12 _ rfl; have o0 := Q2.free 0 _ rfl; have o1 := Q2.free 1 _ rfl; have o2 := Q2.free 2 _ rfl; have o3 := Q2.free 3 _ rfl; have o4 := Q2.free 4 _ rfl; have o5 := Q2.free 5 _ rfl; have o6 := Q2.free 6 _ rfl; have o7 := Q2.free 7 _ rfl; have o8 := Q2.free 8 _ rfl; have o9 := Q2.free 9 _ rfl; have o10 := Q2.free 10 _ rfl; have o11 := Q2.free 11 _ rfl; have o12 := Q2.free 12 _ rfl; (have p1 := Q3.cell 0 _ rfl); (have q0 := Q3.free 0 _ rfl))
  clear m0 m1 m2 m3 m4 m5 m6 m7 m8 m9 m10 m11 m12 o0 o1 o2 o3 o4 o5 o6 o7 o8 o9 o10 o11 o12 c0 c1 c2 c3 c4 c5 c6 c7 c8 c9 c10 c11 c12 p0 q0 p1
  change bodyPost _ _ _ _ _ ((w2.setCells (w.heap.size + 1 + 1) 0 (rgList rg0)).setCells (w.heap.size + 1 + 1 + 1) 0 [.int .u16 0])
  have Z2 := ((Q2.overS (rgList rg0) rfl).othersS (show w.heap.size + 1 + 1 + 1 ≠ w.heap.size + 1 + 1 by omega) [.int .u16 0] 0)
  have Z3 := ((Q3.othersS (show w.heap.size + 1 + 1 ≠ w.heap.size + 1 + 1 + 1 by omega) (rgList rg0) 0).overS [.int .u16 0] rfl)
  have ZX := below_setCells (w.heap.size + 1 + 1 + 1) (by omega) [.int .u16 0] 0 _ (below_setCells (w.heap.size + 1 + 1) (by omega) (rgList rg0) 0 _ X2.out)
  exact ret_enter Tryz.results33 Tryz.underlying26 Tryz.underlying77 (rgList rg0) [.int .u16 0] (by kernel_rfl) (by kernel_rfl) (w.heap.size + 1 + 1) (w.heap.size + 1 + 1 + 1) (.slice none 0 0) (.int .i64 0) (.int .i64 14) ⟨rfl, ZX⟩ Z2 Z3 rfl rfl rfl rfl rfl rfl
/-- The registers behind Enter. -/
def enR (r : Rg) (n : Nat) : Rg := { r with Z := 2048 + 4 * n, Sv := true }
def EnterRet (r : Rg) (p nx : Int) (n : Nat) (w : World) (e : Ending) (w' : World) : Prop := ∃ g, e = .returned (.tuple #[.agg #[.int .u16 (enR r n).A, .int .u16 (enR r n).L, .int .u16 (enR r n).Q, .int .i64 (enR r n).Z, .int .i64 (enR r n).EB, .int .i64 (enR r n).FB, .int .i64 (enR r n).Su, .bool (enR r n).Ex, .int .u16 (enR r n).Ix, .bool (enR r n).Hd, .int .u16 (enR r n).B, .bool (enR r n).Ih, .bool (enR r n).Sv], .agg #[.int .u16 (sB (kq p n) 10 : Nat)], .slice (some ⟨g, 0, none⟩) 2 2, .int .i64 n, .int .i64 0]) ∧
  Blk w' g [.int .i64 13, .int .u16 r.Z, .int .i64 15, .int .u16 (nx % 32768)] ∧ w.heap.size ≤ g ∧ g < w'.heap.size ∧ Below w.heap.size w w'
set_option maxHeartbeats 1000000 in
theorem Enter_ok (r : Rg) (hf : r.Fit) (hm : r.may) (p nx : Int) (hp0 : 0 ≤ p) (hp1 : p < 65536) (x0 : 0 ≤ nx) (x1 : nx < 65536) (n : Nat) (h0 : chz p r = n) (hn : n ≠ 0) (hn1 : n ≤ 10) (w : World) :
    Calls Tryz.prog 33 #[.agg #[.int .u16 r.A, .int .u16 r.L, .int .u16 r.Q, .int .i64 r.Z, .int .i64 r.EB, .int .i64 r.FB, .int .i64 r.Su, .bool r.Ex, .int .u16 r.Ix, .bool r.Hd, .int .u16 r.B, .bool r.Ih, .bool r.Sv], .agg #[.int .u16 p], .int .u16 nx] w (EnterRet r p nx n w) := by
  have K := Lib.hid (ent4_facts w r p)
  have hM := Lib.hid (fun w => May_any r true (decide_eq_true hm) w)
  have hC := Lib.hid (fun w => Choose_any p hp0 hp1 r hf n h0 true (by simp [hn]) w)
  have hL := Lib.hid (fun w => collect_any p n hp0 hp1 w)
  have hx := and15 nx x0 x1
  have hz0 : IntKind.u16.wrap r.Z = r.Z := IntWalk.u16_in _ (by have := hm.2.2.2.2.1; have := hm.2.2.2.2.2.1; omega)
  have hw1 : wrap64 (4 * (n : Int)) = 4 * n := by unfold wrap64; omega
  have hw2 : wrap64 (2048 + 4 * (n : Int)) = 2048 + 4 * n := by unfold wrap64; omega
  obtain ⟨x, hxe⟩ : ∃ x, nx % 32768 = x := ⟨_, rfl⟩
  rw [hxe] at hx
  have HE := Lib.hid hxe
  clear hm hxe
  go_enter Tryz.func33, Tryz.ntmps33
  go_upto_region 1 with (fail)
  change Code.wp _ _ _ _ (ent4 w r p)
  obtain ⟨k1, k2, k3, k4, k5, k6⟩ := K.out
  generalize ent4 w r p = W at k1 k2 k3 k4 k5 k6 ⊢
  have c0 := k1.cell 0 _ rfl; have c1 := k1.cell 1 _ rfl; have c2 := k1.cell 2 _ rfl; have c3 := k1.cell 3 _ rfl; have c4 := k1.cell 4 _ rfl; have c5 := k1.cell 5 _ rfl; have c6 := k1.cell 6 _ rfl; have c7 := k1.cell 7 _ rfl; have c8 := k1.cell 8 _ rfl; have c9 := k1.cell 9 _ rfl; have c10 := k1.cell 10 _ rfl; have c11 := k1.cell 11 _ rfl; have c12 := k1.cell 12 _ rfl
  clear K
  have p0 := k2.cell 0 _ rfl
  go_wp2_with (fail)
  refine (hM.out _).mono ?_
  rintro e w1 ⟨rfl, hb⟩
  have J1 := k1.below hb (by omega)
  have J2 := k2.below hb (by omega)
  have J3 := k3.below hb (by omega)
  have J4 := k4.below hb (by omega)
  have X1 := Lib.hid (k6.trans (hb.mono k6.size))
  have hz1 : w.heap.size + 4 ≤ w1.heap.size := by have := hb.size; omega
  clear hb c0 c1 c2 c3 c4 c5 c6 c7 c8 c9 c10 c11 c12 p0
  have c0 := J1.cell 0 _ rfl; have c1 := J1.cell 1 _ rfl; have c2 := J1.cell 2 _ rfl; have c3 := J1.cell 3 _ rfl; have c4 := J1.cell 4 _ rfl; have c5 := J1.cell 5 _ rfl; have c6 := J1.cell 6 _ rfl; have c7 := J1.cell 7 _ rfl; have c8 := J1.cell 8 _ rfl; have c9 := J1.cell 9 _ rfl; have c10 := J1.cell 10 _ rfl; have c11 := J1.cell 11 _ rfl; have c12 := J1.cell 12 _ rfl
  have p0 := J2.cell 0 _ rfl
  go_wp2_with (fail)
  refine (hC.out _).mono ?_
  rintro e w2 ⟨rfl, hb⟩
  have Q1 := J1.below hb (by omega)
  have Q2 := J2.below hb (by omega)
  have Q3 := Lib.hid (J3.below hb (by omega))
  have Q4 := Lib.hid (J4.below hb (by omega))
  have X2 := Lib.hid (X1.out.trans (hb.mono X1.out.size))
  have hz2 : w.heap.size + 4 ≤ w2.heap.size := by have := hb.size; omega
  clear hb c0 c1 c2 c3 c4 c5 c6 c7 c8 c9 c10 c11 c12 p0 J1 J2 J3 J4
  have c0 := Q1.cell 0 _ rfl; have c1 := Q1.cell 1 _ rfl; have c2 := Q1.cell 2 _ rfl; have c3 := Q1.cell 3 _ rfl; have c4 := Q1.cell 4 _ rfl; have c5 := Q1.cell 5 _ rfl; have c6 := Q1.cell 6 _ rfl; have c7 := Q1.cell 7 _ rfl; have c8 := Q1.cell 8 _ rfl; have c9 := Q1.cell 9 _ rfl; have c10 := Q1.cell 10 _ rfl; have c11 := Q1.cell 11 _ rfl; have c12 := Q1.cell 12 _ rfl
  have p0 := Q2.cell 0 _ rfl
  have H1 := Lib.hid Q1
  have H2 := Lib.hid Q2
  clear Q1 Q2
  go_upto_region 7 with (fail)
  have N1 := H1.out.alloc (show w.heap.size < w2.heap.size by omega) (.cells #[.int .i64 13, .int .u16 r.Z, .int .i64 15, .int .u16 x] 56)
  have N2 := H2.out.alloc (show w.heap.size + 1 < w2.heap.size by omega) (.cells #[.int .i64 13, .int .u16 r.Z, .int .i64 15, .int .u16 x] 56)
  have N3 := Q3.out.alloc (show w.heap.size + 1 + 1 < w2.heap.size by omega) (.cells #[.int .i64 13, .int .u16 r.Z, .int .i64 15, .int .u16 x] 56)
  have N4 := Q4.out.alloc (show w.heap.size + 1 + 1 + 1 < w2.heap.size by omega) (.cells #[.int .i64 13, .int .u16 r.Z, .int .i64 15, .int .u16 x] 56)
  have NC := Blk.new w2 56 [.int .i64 13, .int .u16 r.Z, .int .i64 15, .int .u16 x] _ rfl
  have NX := X2.out.alloc (by omega) (.cells #[.int .i64 13, .int .u16 r.Z, .int .i64 15, .int .u16 x] 56)
  have hV : (w2.alloc (.cells #[.int .i64 13, .int .u16 r.Z, .int .i64 15, .int .u16 x] 56)).heap.size = w2.heap.size + 1 := by simp
  clear c0 c1 c2 c3 c4 c5 c6 c7 c8 c9 c10 c11 c12 p0 H1 H2 Q3 Q4 X1 X2
  generalize (w2.alloc (.cells #[.int .i64 13, .int .u16 r.Z, .int .i64 15, .int .u16 x] 56)) = V at N1 N2 N3 N4 NC NX hV ⊢
  have c0 := N1.cell 0 _ rfl; have c1 := N1.cell 1 _ rfl; have c2 := N1.cell 2 _ rfl; have c3 := N1.cell 3 _ rfl; have c4 := N1.cell 4 _ rfl; have c5 := N1.cell 5 _ rfl; have c6 := N1.cell 6 _ rfl; have c7 := N1.cell 7 _ rfl; have c8 := N1.cell 8 _ rfl; have c9 := N1.cell 9 _ rfl; have c10 := N1.cell 10 _ rfl; have c11 := N1.cell 11 _ rfl; have c12 := N1.cell 12 _ rfl
  have f0 := N1.free 0 _ rfl; have f1 := N1.free 1 _ rfl; have f2 := N1.free 2 _ rfl; have f3 := N1.free 3 _ rfl; have f4 := N1.free 4 _ rfl; have f5 := N1.free 5 _ rfl; have f6 := N1.free 6 _ rfl; have f7 := N1.free 7 _ rfl; have f8 := N1.free 8 _ rfl; have f9 := N1.free 9 _ rfl; have f10 := N1.free 10 _ rfl; have f11 := N1.free 11 _ rfl; have f12 := N1.free 12 _ rfl
  go_upto_region 9 with (fail)
  have M1 := Lib.hid ((N1.set 3 (by simp [rgList]) (.int .i64 (2048 + 4 * n))).set 12 (by simp [rgList]) (.bool true))
  have M2 := Lib.hid ((N2.other (show w.heap.size ≠ w.heap.size + 1 by omega) 3 (.int .i64 (2048 + 4 * n))).other (show w.heap.size ≠ w.heap.size + 1 by omega) 12 (.bool true))
  have M3 := Lib.hid ((N3.other (show w.heap.size ≠ w.heap.size + 1 + 1 by omega) 3 (.int .i64 (2048 + 4 * n))).other (show w.heap.size ≠ w.heap.size + 1 + 1 by omega) 12 (.bool true))
  have M4 := Lib.hid ((N4.other (show w.heap.size ≠ w.heap.size + 1 + 1 + 1 by omega) 3 (.int .i64 (2048 + 4 * n))).other (show w.heap.size ≠ w.heap.size + 1 + 1 + 1 by omega) 12 (.bool true))
  have MC := Lib.hid ((NC.other (show w.heap.size ≠ w2.heap.size by omega) 3 (.int .i64 (2048 + 4 * n))).other (show w.heap.size ≠ w2.heap.size by omega) 12 (.bool true))
  have MX := Lib.hid ((NX.setCell (p := ⟨w.heap.size, 3, none⟩) (Nat.le_refl _) (.int .i64 (2048 + 4 * n))).setCell (p := ⟨w.heap.size, 12, none⟩) (Nat.le_refl _) (.bool true))
  have hU : ((V.setCell ⟨w.heap.size, 3, none⟩ (.int .i64 (2048 + 4 * n))).setCell ⟨w.heap.size, 12, none⟩ (.bool true)).heap.size = w2.heap.size + 1 := by simp [hV]
  clear c0 c1 c2 c3 c4 c5 c6 c7 c8 c9 c10 c11 c12 f0 f1 f2 f3 f4 f5 f6 f7 f8 f9 f10 f11 f12 N1 N2 N3 N4 NC NX hV
  generalize (V.setCell ⟨w.heap.size, 3, none⟩ (.int .i64 (2048 + 4 * n))).setCell ⟨w.heap.size, 12, none⟩ (.bool true) = U at M1 M2 M3 M4 MC MX hU ⊢
  have n1 := M1.out.drew
  simp only [rgList, List.set_cons_succ, List.set_cons_zero] at n1
  have c0 := n1.cell 0 _ rfl; have c1 := n1.cell 1 _ rfl; have c2 := n1.cell 2 _ rfl; have c3 := n1.cell 3 _ rfl; have c4 := n1.cell 4 _ rfl; have c5 := n1.cell 5 _ rfl; have c6 := n1.cell 6 _ rfl; have c7 := n1.cell 7 _ rfl; have c8 := n1.cell 8 _ rfl; have c9 := n1.cell 9 _ rfl; have c10 := n1.cell 10 _ rfl; have c11 := n1.cell 11 _ rfl; have c12 := n1.cell 12 _ rfl
  have p0 := M2.out.drew.cell 0 _ rfl
  clear n1
  go_region_with (go_at_call 69; refine (hL.out _).mono ?_; rintro e w3 ⟨rfl, hb⟩; (replace hb := from_drew hb); (have D1 := M1.out.below hb (by omega)); (have D3 := M3.out.below hb (by omega)); (have D4 := M4.out.below hb (by omega)); (have DC := Lib.hid (MC.out.below hb (by omega))); (have DX := Lib.hid (MX.out.trans (hb.mono (by omega)))); (have hz3 : w2.heap.size + 1 ≤ w3.heap.size := by have := hb.size; omega); clear hb; simp only [rgList, List.set_cons_succ, List.set_cons_zero] at D1; have d0 := D1.cell 0 _ rfl; have d1 := D1.cell 1 _ rfl; have d2 := D1.cell 2 _ rfl; have d3 := D1.cell 3 _ rfl; have d4 := D1.cell 4 _ rfl; have d5 := D1.cell 5 _ rfl; have d6 := D1.cell 6 _ rfl; have d7 := D1.cell 7 _ rfl; have d8 := D1.cell 8 _ rfl; have d9 := D1.cell 9 _ rfl; have d10 := D1.cell 10 _ rfl; have d11 := D1.cell 11 _ rfl; have d12 := D1.cell 12 _ rfl; have m0 := D3.cell 0 _ rfl; have m1 := D3.cell 1 _ rfl; have m2 := D3.cell 2 _ rfl; have m3 := D3.cell 3 _ rfl; have m4 := D3.cell 4 _ rfl; have m5 := D3.cell 5 _ rfl; have m6 := D3.cell 6 _ rfl; have m7 := D3.cell 7 _ rfl; have m8 := D3.cell 8 _ rfl; have m9 := D3.cell 9 _ rfl; have m10 := D3.cell 10 _ rfl; have m11 := D3.cell 11 _ rfl; have m12 := D3.cell 12 _ rfl; have o0 := D3.free 0 _ rfl; have o1 := D3.free 1 _ rfl; have o2 := D3.free 2 _ rfl; have o3 := D3.free 3 _ rfl; have o4 := D3.free 4 _ rfl; have o5 := D3.free 5 _ rfl; have o6 := D3.free 6 _ rfl; have o7 := D3.free 7 _ rfl; have o8 := D3.free 8 _ rfl; have o9 := D3.free 9 _ rfl; have o10 := D3.free 10 _ rfl; have o11 := D3.free 11 _ rfl; have o12 := D3.free 12 _ rfl; (have q0 := D4.cell 0 _ rfl); (have q1 := D4.free 0 _ rfl); (have H3 := Lib.hid D3); (have H4 := Lib.hid D4); clear D1 D3 D4)
  all_goals
    rename_i K hK
    refine hK _ _ (wp_ret ?_)
    clear hK c0 c1 c2 c3 c4 c5 c6 c7 c8 c9 c10 c11 c12 d0 d1 d2 d3 d4 d5 d6 d7 d8 d9 d10 d11 d12 m0 m1 m2 m3 m4 m5 m6 m7 m8 m9 m10 m11 m12 o0 o1 o2 o3 o4 o5 o6 o7 o8 o9 o10 o11 o12 p0 q0 q1
    change bodyPost _ _ _ _ _ ((w3.setCells (w.heap.size + 1 + 1) 0 (rgList (enR r n))).setCells (w.heap.size + 1 + 1 + 1) 0 [.int .u16 (sB (kq p n) 10 : Nat)])
    have Z2 := ((H3.out.overS (rgList (enR r n)) rfl).othersS (show w.heap.size + 1 + 1 + 1 ≠ w.heap.size + 1 + 1 by omega) [.int .u16 (sB (kq p n) 10 : Nat)] 0)
    have Z3 := ((H4.out.othersS (show w.heap.size + 1 + 1 ≠ w.heap.size + 1 + 1 + 1 by omega) (rgList (enR r n)) 0).overS [.int .u16 (sB (kq p n) 10 : Nat)] rfl)
    have ZC := ((DC.out.othersS (show w.heap.size + 1 + 1 ≠ w2.heap.size by omega) (rgList (enR r n)) 0).othersS (show w.heap.size + 1 + 1 + 1 ≠ w2.heap.size by omega) [.int .u16 (sB (kq p n) 10 : Nat)] 0)
    have ZX := below_setCells (w.heap.size + 1 + 1 + 1) (by omega) [.int .u16 (sB (kq p n) 10 : Nat)] 0 _ (below_setCells (w.heap.size + 1 + 1) (by omega) (rgList (enR r n)) 0 _ DX.out)
    have ZS : w2.heap.size < ((w3.setCells (w.heap.size + 1 + 1) 0 (rgList (enR r n))).setCells (w.heap.size + 1 + 1 + 1) 0 [.int .u16 (sB (kq p n) 10 : Nat)]).heap.size := by rw [setCells_size, setCells_size]; omega
    generalize (w3.setCells (w.heap.size + 1 + 1) 0 (rgList (enR r n))).setCells (w.heap.size + 1 + 1 + 1) 0 [.int .u16 (sB (kq p n) 10 : Nat)] = Y at Z2 Z3 ZC ZX ZS ⊢
    exact ret_enter Tryz.results33 Tryz.underlying26 Tryz.underlying77 (rgList (enR r n)) [.int .u16 (sB (kq p n) 10 : Nat)] (by kernel_rfl) (by kernel_rfl) (w.heap.size + 1 + 1) (w.heap.size + 1 + 1 + 1) (.slice (some ⟨w2.heap.size, 0, none⟩) 2 2) (.int .i64 n) (.int .i64 0) ⟨w2.heap.size, rfl, by rw [HE.out]; exact ZC, by omega, ZS, ZX⟩ Z2 Z3 rfl rfl rfl rfl rfl rfl
end Go.Proofs.YtjjkikghfmnikaaGreatDoor
