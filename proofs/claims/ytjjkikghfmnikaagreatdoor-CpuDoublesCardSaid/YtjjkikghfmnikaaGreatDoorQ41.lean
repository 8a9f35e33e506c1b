/- Contracts of layer 5: the program's Step, an instruction that was fetched. -/
import Derived.Test.YtjjkikghfmnikaaGreatDoorQ40
import Derived.Deep.WholeRow
import Derived.Deep.RegionLaw
set_option linter.unusedSimpArgs false
set_option linter.unusedVariables false
set_option maxRecDepth 100000
namespace Go.Proofs.YtjjkikghfmnikaaGreatDoor
open Go.ChangeShapes Go.WideShapes Go.ChangeAt Go.RowKit
/-- A whole struct into the block that was made last. -/
theorem wp_storeNew {P : Program} {ops : Array Oper} {rest : List Oper} {o : Oper} {a : Act} {W : World} {Q : Exit → Act → World → Prop} (hgd : o.guard = none) (t : TypeId) (x y : Operand) (hop : o.op = Op.store t x y)
    (c c' : Array Value) (g : Nat) (hg : W.heap.size = g) (hx : a.eval x = .pointer (some ⟨g, 0, none⟩)) (hy : a.eval y = .agg c') (hi : (P.info? t).map (·.size) = some c'.size) (ho : c.size = c'.size) (h1 : c'.all (·.oneCell') = true)
    (hdst : o.dst = none) (h : wpList P ops Q rest a (W.alloc (.cells c' t))) : wpList P ops Q (o :: rest) a (W.alloc (.cells c t)) := by
  subst hg
  refine wpList_plain hgd fun K hK => ?_
  have hrun := run_storeAt_new (P := P) W t c c' hi ho h1
  unfold Oper.wp
  simp only [execOp, hop, hx, hy, Sem.run_bind, hrun, Result.andThen]
  have e : a.put o.dst undef = a := by rw [hdst]; rfl
  exact hK _ _ (by rw [e]; exact h)
/-- The end of a region: two structs stored, a value assigned. -/
theorem wp_tail3 {P : Program} {ops : Array Oper} {o1 o2 o3 : Oper} {a : Act} {w : World} {Q : Exit → Act → World → Prop} (h1 : o1.guard = none) (h2 : o2.guard = none) (h3 : o3.guard = none) (t1 t2 : TypeId) (x1 y1 x2 y2 x3 : Operand) (d : Tmp)
    (p1 : o1.op = Op.store t1 x1 y1) (p2 : o2.op = Op.store t2 x2 y2) (p3 : o3.op = Op.assign x3) (d1 : o1.dst = none) (d2 : o2.dst = none) (d3 : o3.dst = some d)
    (g1 g2 : Nat) (l1 l2 c1 c2 : List Value) (v3 : Value) (hne : g1 ≠ g2) (b1 : Blk w g1 l1) (b2 : Blk w g2 l2) (e1 : a.eval x1 = .pointer (some ⟨g1, 0, none⟩)) (f1 : a.eval y1 = .agg c1.toArray) (e2 : a.eval x2 = .pointer (some ⟨g2, 0, none⟩)) (f2 : a.eval y2 = .agg c2.toArray) (e3 : a.eval x3 = v3)
    (n1 : c1.length = l1.length) (n2 : c2.length = l2.length) (i1 : (P.info? t1).map (·.size) = some c1.length) (i2 : (P.info? t2).map (·.size) = some c2.length) (k1 : ∀ v ∈ c1, v.oneCell' = true) (k2 : ∀ v ∈ c2, v.oneCell' = true)
    (h : Q .normal (a.put (some d) v3) (setAll (setAll w g1 0 c1) g2 0 c2)) : wpList P ops Q [o1, o2, o3] a w := by
  refine wp_storeBlk h1 t1 x1 y1 p1 d1 g1 l1 c1 b1 e1 f1 n1 i1 k1 ?_
  refine wp_storeBlk h2 t2 x2 y2 p2 d2 g2 l2 c2 (b2.others hne c1 _ 0) e2 f2 n2 i2 k2 ?_
  refine wpList_plain h3 fun K hK => ?_
  unfold Oper.wp
  simp only [execOp, p3, e3, d3, Sem.run_pure, Result.andThen, Sem.run_bind]
  exact hK _ _ (wpList_nil (by rw [d3]; exact h))
theorem call_efn (i : Nat) (h : i < 39) (g : Nat) (w : World) : (callFunc (efn i) #[.pointer (some ⟨g, 0, none⟩)]).run Tryz.prog w = .ok (.enter (efn i) #[.pointer (some ⟨g, 0, none⟩)]) w := by
  have : i = 0 ∨ i = 1 ∨ i = 2 ∨ i = 3 ∨ i = 4 ∨ i = 5 ∨ i = 6 ∨ i = 7 ∨ i = 8 ∨ i = 9 ∨ i = 10 ∨ i = 11 ∨ i = 12 ∨ i = 13 ∨ i = 14 ∨ i = 15 ∨ i = 16 ∨ i = 17 ∨ i = 18 ∨ i = 19 ∨ i = 20 ∨ i = 21 ∨ i = 22 ∨ i = 23 ∨ i = 24 ∨ i = 25 ∨ i = 26 ∨ i = 27 ∨ i = 28 ∨ i = 29 ∨ i = 30 ∨ i = 31 ∨ i = 32 ∨ i = 33 ∨ i = 34 ∨ i = 35 ∨ i = 36 ∨ i = 37 ∨ i = 38 := by omega
  rcases this with rfl | rfl | rfl | rfl | rfl | rfl | rfl | rfl | rfl | rfl | rfl | rfl | rfl | rfl | rfl | rfl | rfl | rfl | rfl | rfl | rfl | rfl | rfl | rfl | rfl | rfl | rfl | rfl | rfl | rfl | rfl | rfl | rfl | rfl | rfl | rfl | rfl | rfl | rfl
  all_goals (refine Eq.trans ?_ rfl; kernel_rfl)
theorem fRds_len (r : Rg) : (fRds r).length ≤ 1 := by unfold fRds rds; split <;> (try split) <;> simp
theorem ok_fRg {r : Rg} (h : r.ok) : (fRg r).ok := by
  have h1 : Rg.ok { r with Z := (r.Z + 1) % 4096 } := ok_Z h (by omega) (by omega)
  have h2 := ok_f h1 false false r.Ih r.Sv
  have h3 := ok_B h2 (a := 0) (by omega) (by omega)
  exact ok_Ix h3 (a := 0) (by omega) (by omega)
theorem spot_stp {r : Rg} (h : r.may) {k : Int} (k0 : 0 ≤ k) (k1 : k ≤ 4095) : spotOk (spS r k) (spA r k) := by
  have hb := adr_bd h k0 k1
  have hs := spc_or k
  unfold spS spA
  by_cases c : 0 ≤ k ∧ k ≤ 4095 ∧ has r k
  · rw [if_pos c, if_pos c]
    refine ⟨by omega, by omega, hb.1, ?_⟩
    have := hb.2
    rcases hs with e | e <;> rw [e] at this ⊢ <;> simp at this ⊢ <;> omega
  · rw [if_neg c, if_neg c]
    exact ⟨by omega, by omega, by omega, by decide⟩
set_option maxHeartbeats 40000000 in
theorem mStep_core (r : Rg) (hf : r.Fit) (h : r.may) (okf : fOk r) (v : Vw) (i : Nat) (h39 : i < 39) (x k ms : Int) (hx : fI r v = x) (hi : decI x r.Ex = i) (hk : x - bs i = k) (k0 : 0 ≤ k) (k1 : k ≤ 4095) (hms : spE (fRg r) k = ms)
    (E : St → Vw → St) (rd : Bool) (hE : EffC (efn i) E rd) (ea : Option Addr) (ec : Nat) (fa : Option Addr) (fc : Nat) (ca : Option Addr) (cc : Nat) (w : World) (hv : VwAt w v ea fa ca) (hL : Lay w) :
    Calls Tryz.prog 19 #[.agg #[.int .u16 r.A, .int .u16 r.L, .int .u16 r.Q, .int .i64 r.Z, .int .i64 r.EB, .int .i64 r.FB, .int .i64 r.Su, .bool r.Ex, .int .u16 r.Ix, .bool r.Hd, .int .u16 r.B, .bool r.Ih, .bool r.Sv], .agg #[.slice ea v.ne ec, .slice fa v.nf fc, .slice ca v.nc cc]] w (StepPost rd ms (E (stp0 r i k) v) w) := by
  have hN := Lib.hid (fun w hv hL => mFetch_yes r hf h okf v i x hx hi ea ec fa fc ca cc w hv hL)
  rw [hk] at hN
  have K := Lib.hid (stp4_facts w r ea ec fa fc ca cc v)
  have OK := Lib.hid (ok_fRg ⟨h, hf⟩)
  have HV := Lib.hid hv
  have HL := Lib.hid hL
  have HE := Lib.hid hE
  have HSP := Lib.hid (spot_stp OK.out.1 k0 k1)
  have HMS := Lib.hid hms
  obtain ⟨r', hr'⟩ : ∃ r', fRg r = r' := ⟨_, rfl⟩
  obtain ⟨ss, hss⟩ : ∃ ss, spS r' k = ss := ⟨_, rfl⟩
  obtain ⟨sa, hsa⟩ : ∃ sa, spA r' k = sa := ⟨_, rfl⟩
  have HS0 : Hid (stp0 r i k = { r := r', cells := [], outs := [], reads := fRds r, cyc := cy i, op := (i : Int) + 1, k := k, ss := ss, sa := sa }) := by unfold stp0; rw [hr', hss, hsa]; rfl
  rw [HS0.out]
  have HSS := Lib.hid hss
  have HSA := Lib.hid hsa
  rw [hr'] at hN OK HSP HMS
  rw [hss, hsa] at HSP
  have KX := Lib.hid k1
  have K0 := Lib.hid k0
  have hkd := kd_255 i h39
  clear hf h okf hx hi hk hms hE hv hL hr' hss hsa HS0
  go_enter Tryz.func19, Tryz.ntmps19
  go_upto_region 1 with (fail)
  change Code.wp _ _ _ _ (stp4 w r ea ec fa fc ca cc v)
  obtain ⟨k1, k2, k3, k4, k5, k6⟩ := K.out
  generalize stp4 w r ea ec fa fc ca cc v = W at k1 k2 k3 k4 k5 k6 ⊢
  have c0 := k1.cell 0 _ rfl; have c1 := k1.cell 1 _ rfl; have c2 := k1.cell 2 _ rfl; have c3 := k1.cell 3 _ rfl; have c4 := k1.cell 4 _ rfl; have c5 := k1.cell 5 _ rfl; have c6 := k1.cell 6 _ rfl; have c7 := k1.cell 7 _ rfl; have c8 := k1.cell 8 _ rfl; have c9 := k1.cell 9 _ rfl; have c10 := k1.cell 10 _ rfl; have c11 := k1.cell 11 _ rfl; have c12 := k1.cell 12 _ rfl; have d0 := k2.cell 0 _ rfl; have d1 := k2.cell 1 _ rfl; have d2 := k2.cell 2 _ rfl
  clear K
  have Y0 := Lib.hid k6
  have YA := Lib.hid k1
  have YB := Lib.hid k2
  have Y3 := Lib.hid k3
  have Y4 := Lib.hid k4
  clear k1 k2 k3 k4 k6
  go_upto_region 2 with (go_at_call 16; refine (hN.out _ (HV.out.below Y0.out (Nat.le_refl _)) (HL.out.below Y0.out)).mono ?_; rintro e w1 ⟨vl, rfl, ho, hb⟩; (obtain ⟨Av, nv, cv, rfl⟩ := ho.shape); (have HO := Lib.hid (ho.low (B' := w.heap.size + 4) (by omega))); (have Q1 := YA.out.below hb (by omega)); (have QB := Lib.hid (YB.out.below hb (by omega))); (have Q2 := Lib.hid (Y3.out.below hb (by omega))); (have Q3 := Lib.hid (Y4.out.below hb (by omega))); (have X1 := Lib.hid (Y0.out.trans (hb.mono Y0.out.size))); (have hz1 : w.heap.size + 4 ≤ w1.heap.size := by have := hb.size; omega); (have hz2 : w.heap.size < w1.heap.size := by omega); clear hb ho; have a0 := Q1.cell 0 _ rfl; have a1 := Q1.cell 1 _ rfl; have a2 := Q1.cell 2 _ rfl; have a3 := Q1.cell 3 _ rfl; have a4 := Q1.cell 4 _ rfl; have a5 := Q1.cell 5 _ rfl; have a6 := Q1.cell 6 _ rfl; have a7 := Q1.cell 7 _ rfl; have a8 := Q1.cell 8 _ rfl; have a9 := Q1.cell 9 _ rfl; have a10 := Q1.cell 10 _ rfl; have a11 := Q1.cell 11 _ rfl; have a12 := Q1.cell 12 _ rfl; have b0 := Q1.free 0 _ rfl; have b1 := Q1.free 1 _ rfl; have b2 := Q1.free 2 _ rfl; have b3 := Q1.free 3 _ rfl; have b4 := Q1.free 4 _ rfl; have b5 := Q1.free 5 _ rfl; have b6 := Q1.free 6 _ rfl; have b7 := Q1.free 7 _ rfl; have b8 := Q1.free 8 _ rfl; have b9 := Q1.free 9 _ rfl; have b10 := Q1.free 10 _ rfl; have b11 := Q1.free 11 _ rfl; have b12 := Q1.free 12 _ rfl)
  clear c0 c1 c2 c3 c4 c5 c6 c7 c8 c9 c10 c11 c12 d0 d1 d2 a0 a1 a2 a3 a4 a5 a6 a7 a8 a9 a10 a11 a12 b0 b1 b2 b3 b4 b5 b6 b7 b8 b9 b10 b11 b12
  change Code.wp _ _ _ _ ((setAll w1 w.heap.size 0 (rgList r')).alloc (.cells (opLi i).toArray 41))
  have ZA := (Q1.over (rgList r') rfl).alloc (by rw [setAll_size]; omega) (.cells (opLi i).toArray 41)
  have ZB := (QB.out.others (show w.heap.size ≠ w.heap.size + 1 by omega) (rgList r') _ 0).alloc (by rw [setAll_size]; omega) (.cells (opLi i).toArray 41)
  have Z2 := Lib.hid ((Q2.out.others (show w.heap.size ≠ w.heap.size + 1 + 1 by omega) (rgList r') _ 0).alloc (by rw [setAll_size]; omega) (.cells (opLi i).toArray 41))
  have Z3 := Lib.hid ((Q3.out.others (show w.heap.size ≠ w.heap.size + 1 + 1 + 1 by omega) (rgList r') _ 0).alloc (by rw [setAll_size]; omega) (.cells (opLi i).toArray 41))
  have ZO := Blk.new (setAll w1 w.heap.size 0 (rgList r')) 41 (opLi i) w1.heap.size (setAll_size _ _ _ _)
  have ZR := Lib.hid ((OwnP.setAll_low (show w.heap.size < w.heap.size + 4 by omega) (rgList r') _ 0 HO.out).below ((Below.refl _ _).alloc (Nat.le_refl _) (.cells (opLi i).toArray 41)) (Nat.le_refl _))
  have ZX := Lib.hid ((below_setAll w.heap.size (Nat.le_refl _) (rgList r') _ 0 X1.out).alloc (by rw [setAll_size]; omega) (.cells (opLi i).toArray 41))
  have ZZ : ((setAll w1 w.heap.size 0 (rgList r')).alloc (.cells (opLi i).toArray 41)).heap.size = w1.heap.size + 1 := by simp [setAll_size]
  generalize (setAll w1 w.heap.size 0 (rgList r')).alloc (.cells (opLi i).toArray 41) = V at ZA ZB Z2 Z3 ZO ZR ZX ZZ ⊢
  have VV := Lib.hid (HV.out.below ZX.out (Nat.le_refl _))
  obtain ⟨go, hgo⟩ : ∃ go, w1.heap.size = go := ⟨_, rfl⟩
  rw [hgo] at hz1 hz2 ZO ZZ ⊢
  have EA := Lib.hid ZA
  have EB := Lib.hid ZB
  have EO := Lib.hid ZO
  have c0 := ZA.cell 0 _ rfl; have c1 := ZA.cell 1 _ rfl; have c2 := ZA.cell 2 _ rfl; have c3 := ZA.cell 3 _ rfl; have c4 := ZA.cell 4 _ rfl; have c5 := ZA.cell 5 _ rfl; have c6 := ZA.cell 6 _ rfl; have c7 := ZA.cell 7 _ rfl; have c8 := ZA.cell 8 _ rfl; have c9 := ZA.cell 9 _ rfl; have c10 := ZA.cell 10 _ rfl; have c11 := ZA.cell 11 _ rfl; have c12 := ZA.cell 12 _ rfl; have d0 := ZB.cell 0 _ rfl; have d1 := ZB.cell 1 _ rfl; have d2 := ZB.cell 2 _ rfl; have m0 := ZO.cell 0 _ rfl; have m1 := ZO.cell 1 _ rfl; have m2 := ZO.cell 2 _ rfl; have m3 := ZO.cell 3 _ rfl; have m4 := ZO.cell 4 _ rfl; have m5 := ZO.cell 5 _ rfl
  clear ZA ZB ZO Q1 QB Q2 Q3 HO X1 hgo Y0 YA YB Y3 Y4 hN HL
  go_upto_region 4 with (fail)
  go_cut [2, 3, 4, 5, 7, 8, 9, 11, 12] (fun s2 s3 s4 s5 s7 s8 s9 s11 s12 wx => s2 = .pointer (some ⟨w.heap.size, 0, none⟩) ∧ s3 = .pointer (some ⟨w.heap.size + 1, 0, none⟩) ∧ s4 = .pointer (some ⟨w.heap.size + 1 + 1, 0, none⟩) ∧ s5 = .pointer (some ⟨w.heap.size + 1 + 1 + 1, 0, none⟩) ∧ s7 = .pointer (some ⟨go, 0, none⟩) ∧ s8 = .int .i64 k ∧ s9 = .slice Av nv cv ∧ s12 = .int .i64 ms ∧ ∃ gs : Nat, s11 = .pointer (some ⟨gs, 0, none⟩) ∧ go + 1 ≤ gs ∧ wx.heap.size = gs + 1 ∧ Blk wx w.heap.size (rgList r') ∧ Blk wx (w.heap.size + 1) [.slice ea v.ne ec, .slice fa v.nf fc, .slice ca v.nc cc] ∧ Blk wx (w.heap.size + 1 + 1) (rgList rg0) ∧ Blk wx (w.heap.size + 1 + 1 + 1) dnL0 ∧ Blk wx go (opLi i) ∧ Blk wx gs [.int .u8 ss, .int .i64 sa] ∧ OwnP .u8 .i64 59 wx (w.heap.size + 4) (.slice Av nv cv) (fRds r) ∧ Below w.heap.size w wx)
  case first =>
    go_wp2_with (go_at_call 39; refine (spotOf_any r' OK.out.1 k ss sa ms (by have := K0.out; omega) (by have := KX.out; omega) HSS.out HSA.out HMS.out _).mono ?_; rintro e w2 ⟨rfl, hb⟩; (have FA := Lib.hid (EA.out.below hb (by omega))); (have FB := Lib.hid (EB.out.below hb (by omega))); (have FO := Lib.hid (EO.out.below hb (by omega))); (have F2 := Lib.hid (Z2.out.below hb (by omega))); (have F3 := Lib.hid (Z3.out.below hb (by omega))); (have FR := Lib.hid (ZR.out.below hb (Nat.le_refl _))); (have FX := Lib.hid (ZX.out.trans (hb.mono ZX.out.size))); (have hz3 : go + 1 ≤ w2.heap.size := by have := hb.size; omega); clear hb)
    go_meet
    exact ⟨rfl, rfl, rfl, rfl, rfl, rfl, rfl, rfl, w2.heap.size, rfl, hz3, by simp, FA.out.alloc (by omega) _, FB.out.alloc (by omega) _, F2.out.alloc (by omega) _, F3.out.alloc (by omega) _, FO.out.alloc (by omega) _, Blk.new w2 59 [.int .u8 ss, .int .i64 sa] _ rfl, FR.out.below ((Below.refl _ _).alloc (Nat.le_refl _) _) (Nat.le_refl _), FX.out.alloc (by omega) _⟩
  case rest =>
    obtain ⟨rfl, rfl, rfl, rfl, rfl, rfl, rfl, rfl, gs, rfl, hg1, hg2, GA, GB, G2, G3, GO, GS, GR, GX⟩ := hcut
    have G2 := Lib.hid G2
    have G3 := Lib.hid G3
    have GR := Lib.hid GR
    have GX := Lib.hid GX
    have LO := Lib.hid GO
    have VU := Lib.hid (HV.out.below GX.out (Nat.le_refl _))
    clear c0 c1 c2 c3 c4 c5 c6 c7 c8 c9 c10 c11 c12 d0 d1 d2 m0 m1 m2 m3 m4 m5 EA EB EO Z2 Z3 ZR ZX
    have c0 := GA.cell 0 _ rfl; have c1 := GA.cell 1 _ rfl; have c2 := GA.cell 2 _ rfl; have c3 := GA.cell 3 _ rfl; have c4 := GA.cell 4 _ rfl; have c5 := GA.cell 5 _ rfl; have c6 := GA.cell 6 _ rfl; have c7 := GA.cell 7 _ rfl; have c8 := GA.cell 8 _ rfl; have c9 := GA.cell 9 _ rfl; have c10 := GA.cell 10 _ rfl; have c11 := GA.cell 11 _ rfl; have c12 := GA.cell 12 _ rfl; have d0 := GB.cell 0 _ rfl; have d1 := GB.cell 1 _ rfl; have d2 := GB.cell 2 _ rfl; have m0 := GO.cell 0 _ rfl; have m1 := GO.cell 1 _ rfl; have m2 := GO.cell 2 _ rfl; have m3 := GO.cell 3 _ rfl; have m4 := GO.cell 4 _ rfl; have m5 := GO.cell 5 _ rfl; have p0 := GS.cell 0 _ rfl; have p1 := GS.cell 1 _ rfl
    clear GA GB GO GS
    have hb48 : ∀ w : World, (Instr.build 48 #[(2, .slice Av nv cv), (3, .int .i64 (cy i)), (4, .int .u8 ((i : Int) + 1))]).run Tryz.prog w = .ok (.agg #[.slice none 0 0, .slice none 0 0, .slice Av nv cv, .int .i64 (cy i), .int .u8 ((i : Int) + 1)]) w := fun _ => by kernel_rfl
    have hb91 : ∀ w : World, (Instr.build 96 #[(0, .agg #[.int .u16 r'.A, .int .u16 r'.L, .int .u16 r'.Q, .int .i64 r'.Z, .int .i64 r'.EB, .int .i64 r'.FB, .int .i64 r'.Su, .bool r'.Ex, .int .u16 r'.Ix, .bool r'.Hd, .int .u16 r'.B, .bool r'.Ih, .bool r'.Sv]), (1, .agg #[.slice ea v.ne ec, .slice fa v.nf fc, .slice ca v.nc cc]), (2, .int .i64 k), (3, .agg #[.int .u8 ss, .int .i64 sa]), (4, .agg #[.slice none 0 0, .slice none 0 0, .slice Av nv cv, .int .i64 (cy i), .int .u8 ((i : Int) + 1)])]).run Tryz.prog w = .ok (.agg #[.int .u16 r'.A, .int .u16 r'.L, .int .u16 r'.Q, .int .i64 r'.Z, .int .i64 r'.EB, .int .i64 r'.FB, .int .i64 r'.Su, .bool r'.Ex, .int .u16 r'.Ix, .bool r'.Hd, .int .u16 r'.B, .bool r'.Ih, .bool r'.Sv, .slice ea v.ne ec, .slice fa v.nf fc, .slice ca v.nc cc, .int .i64 k, .int .u8 ss, .int .i64 sa, .slice none 0 0, .slice none 0 0, .slice Av nv cv, .int .i64 (cy i), .int .u8 ((i : Int) + 1), .bool false]) w := fun _ => by kernel_rfl
    have hone : (#[.int .u16 r'.A, .int .u16 r'.L, .int .u16 r'.Q, .int .i64 r'.Z, .int .i64 r'.EB, .int .i64 r'.FB, .int .i64 r'.Su, .bool r'.Ex, .int .u16 r'.Ix, .bool r'.Hd, .int .u16 r'.B, .bool r'.Ih, .bool r'.Sv, .slice ea v.ne ec, .slice fa v.nf fc, .slice ca v.nc cc, .int .i64 k, .int .u8 ss, .int .i64 sa, .slice none 0 0, .slice none 0 0, .slice Av nv cv, .int .i64 (cy i), .int .u8 ((i : Int) + 1), .bool false] : Array Value).all (·.oneCell') = true := by simp [Value.oneCell']
    have Hg2 := Lib.hid hg2
    clear hg2
    go_upto_region 5 with (fail)
    go_wp2_with (show wpList _ _ _ [_] _ (World.alloc _ _); apply wp_storeNew)
    case hgd => rfl
    case hop => exact ⟨rfl, rfl⟩
    case hg => rfl
    case hx => rfl
    case hy => rfl
    case hi => kernel_rfl
    case ho => rfl
    case h1 => exact hone
    case hdst => rfl
    clear c0 c1 c2 c3 c4 c5 c6 c7 c8 c9 c10 c11 c12 d0 d1 d2 m0 m1 m2 m3 m4 m5 p0 p1 hb48 hb91 hone
    have hwz : w.heap.size + 4 ≤ wc.heap.size := by have := Hg2.out; omega
    have hgo : go < wc.heap.size := by have := Hg2.out; omega
    obtain ⟨s0, hs0⟩ : ∃ s0 : St, s0 = { r := r', cells := [], outs := [], reads := fRds r, cyc := cy i, op := (i : Int) + 1, k := k, ss := ss, sa := sa } := ⟨_, rfl⟩
    have HS : Hid (HAt (wc.alloc (.cells #[.int .u16 r'.A, .int .u16 r'.L, .int .u16 r'.Q, .int .i64 r'.Z, .int .i64 r'.EB, .int .i64 r'.FB, .int .i64 r'.Su, .bool r'.Ex, .int .u16 r'.Ix, .bool r'.Hd, .int .u16 r'.B, .bool r'.Ih, .bool r'.Sv, .slice ea v.ne ec, .slice fa v.nf fc, .slice ca v.nc cc, .int .i64 k, .int .u8 ss, .int .i64 sa, .slice none 0 0, .slice none 0 0, .slice Av nv cv, .int .i64 (cy i), .int .u8 ((i : Int) + 1), .bool false] 96)) (w.heap.size + 4) wc.heap.size s0 false v ea ec fa fc ca cc) := by
      subst hs0
      refine ⟨.slice none 0 0, .slice none 0 0, .slice Av nv cv, Blk.new wc 96 [.int .u16 r'.A, .int .u16 r'.L, .int .u16 r'.Q, .int .i64 r'.Z, .int .i64 r'.EB, .int .i64 r'.FB, .int .i64 r'.Su, .bool r'.Ex, .int .u16 r'.Ix, .bool r'.Hd, .int .u16 r'.B, .bool r'.Ih, .bool r'.Sv, .slice ea v.ne ec, .slice fa v.nf fc, .slice ca v.nc cc, .int .i64 k, .int .u8 ss, .int .i64 sa, .slice none 0 0, .slice none 0 0, .slice Av nv cv, .int .i64 (cy i), .int .u8 ((i : Int) + 1), .bool false] _ rfl, hwz, by simp, VU.out.alloc _, HV.out.vB (by omega), OwnP.nil _ _ _ _ _, OwnP.nil _ _ _ _ _, GR.out.below ((Below.refl _ _).alloc (Nat.le_refl _) _) (Nat.le_refl _), by simp [Value.ownBlock], by simp [Value.ownBlock], fun e => by have := (OwnP.lt GR.out _ e).2; omega, fun j e => by simp [Value.ownBlock] at e, fun j e => by simp [Value.ownBlock] at e, fun j e => by simp [Value.ownBlock] at e, OK.out, ⟨K0.out, KX.out⟩, HSP.out⟩
    have HL0 := Lib.hid (show s0.len ≤ 900 by have := fRds_len r; subst hs0; unfold St.len; simp; omega)
    have HEQ := Lib.hid hs0
    have W2 := Lib.hid (G2.out.alloc (by omega) (.cells #[.int .u16 r'.A, .int .u16 r'.L, .int .u16 r'.Q, .int .i64 r'.Z, .int .i64 r'.EB, .int .i64 r'.FB, .int .i64 r'.Su, .bool r'.Ex, .int .u16 r'.Ix, .bool r'.Hd, .int .u16 r'.B, .bool r'.Ih, .bool r'.Sv, .slice ea v.ne ec, .slice fa v.nf fc, .slice ca v.nc cc, .int .i64 k, .int .u8 ss, .int .i64 sa, .slice none 0 0, .slice none 0 0, .slice Av nv cv, .int .i64 (cy i), .int .u8 ((i : Int) + 1), .bool false] 96))
    have W3 := Lib.hid (G3.out.alloc (by omega) (.cells #[.int .u16 r'.A, .int .u16 r'.L, .int .u16 r'.Q, .int .i64 r'.Z, .int .i64 r'.EB, .int .i64 r'.FB, .int .i64 r'.Su, .bool r'.Ex, .int .u16 r'.Ix, .bool r'.Hd, .int .u16 r'.B, .bool r'.Ih, .bool r'.Sv, .slice ea v.ne ec, .slice fa v.nf fc, .slice ca v.nc cc, .int .i64 k, .int .u8 ss, .int .i64 sa, .slice none 0 0, .slice none 0 0, .slice Av nv cv, .int .i64 (cy i), .int .u8 ((i : Int) + 1), .bool false] 96))
    have WO := Lib.hid (LO.out.alloc hgo (.cells #[.int .u16 r'.A, .int .u16 r'.L, .int .u16 r'.Q, .int .i64 r'.Z, .int .i64 r'.EB, .int .i64 r'.FB, .int .i64 r'.Su, .bool r'.Ex, .int .u16 r'.Ix, .bool r'.Hd, .int .u16 r'.B, .bool r'.Ih, .bool r'.Sv, .slice ea v.ne ec, .slice fa v.nf fc, .slice ca v.nc cc, .int .i64 k, .int .u8 ss, .int .i64 sa, .slice none 0 0, .slice none 0 0, .slice Av nv cv, .int .i64 (cy i), .int .u8 ((i : Int) + 1), .bool false] 96))
    have WX := Lib.hid (GX.out.alloc (by omega) (.cells #[.int .u16 r'.A, .int .u16 r'.L, .int .u16 r'.Q, .int .i64 r'.Z, .int .i64 r'.EB, .int .i64 r'.FB, .int .i64 r'.Su, .bool r'.Ex, .int .u16 r'.Ix, .bool r'.Hd, .int .u16 r'.B, .bool r'.Ih, .bool r'.Sv, .slice ea v.ne ec, .slice fa v.nf fc, .slice ca v.nc cc, .int .i64 k, .int .u8 ss, .int .i64 sa, .slice none 0 0, .slice none 0 0, .slice Av nv cv, .int .i64 (cy i), .int .u8 ((i : Int) + 1), .bool false] 96))
    have WZ : (wc.alloc (.cells #[.int .u16 r'.A, .int .u16 r'.L, .int .u16 r'.Q, .int .i64 r'.Z, .int .i64 r'.EB, .int .i64 r'.FB, .int .i64 r'.Su, .bool r'.Ex, .int .u16 r'.Ix, .bool r'.Hd, .int .u16 r'.B, .bool r'.Ih, .bool r'.Sv, .slice ea v.ne ec, .slice fa v.nf fc, .slice ca v.nc cc, .int .i64 k, .int .u8 ss, .int .i64 sa, .slice none 0 0, .slice none 0 0, .slice Av nv cv, .int .i64 (cy i), .int .u8 ((i : Int) + 1), .bool false] 96)).heap.size = wc.heap.size + 1 := by simp
    obtain ⟨g, hg⟩ : ∃ g, wc.heap.size = g := ⟨_, rfl⟩
    generalize wc.alloc (.cells #[.int .u16 r'.A, .int .u16 r'.L, .int .u16 r'.Q, .int .i64 r'.Z, .int .i64 r'.EB, .int .i64 r'.FB, .int .i64 r'.Su, .bool r'.Ex, .int .u16 r'.Ix, .bool r'.Hd, .int .u16 r'.B, .bool r'.Ih, .bool r'.Sv, .slice ea v.ne ec, .slice fa v.nf fc, .slice ca v.nc cc, .int .i64 k, .int .u8 ss, .int .i64 sa, .slice none 0 0, .slice none 0 0, .slice Av nv cv, .int .i64 (cy i), .int .u8 ((i : Int) + 1), .bool false] 96) = W at HS W2 W3 WO WX WZ ⊢
    rw [hg] at HS WZ hwz hgo ⊢
    have hW1 : g < W.heap.size := by omega
    clear hs0 G2 G3 GR GX LO VU HV Hg2 hg WZ
    obtain ⟨n, hlook⟩ := look_tab g i h39
    have hq : kd i = 0 ∨ kd i = 1 ∨ kd i = 2 ∨ kd i = 3 ∨ kd i = 4 := by have := kd_bd i h39; omega
    have q1 : W.drew.cell? ⟨go, 1, none⟩ = some (.string (nm i)) := WO.out.cell 1 _ rfl
    have q3 : W.drew.cell? ⟨go, 3, none⟩ = some (.int .u8 (kd i)) := WO.out.cell 3 _ rfl
    have HQ := Lib.hid hq
    have HLK := Lib.hid hlook
    clear hq hlook
    go_upto_region 6 with (fail)
    go_cut [4, 5, 12, 13] (fun s4 s5 s12 s13 wx => s4 = .pointer (some ⟨w.heap.size + 1 + 1, 0, none⟩) ∧ s5 = .pointer (some ⟨w.heap.size + 1 + 1 + 1, 0, none⟩) ∧ s12 = .int .i64 ms ∧ s13 = .pointer (some ⟨g, 0, none⟩) ∧ HAt wx (w.heap.size + 4) g (E s0 v) rd v ea ec fa fc ca cc ∧ Blk wx (w.heap.size + 1 + 1) (rgList rg0) ∧ Blk wx (w.heap.size + 1 + 1 + 1) dnL0 ∧ Below w.heap.size w wx)
    case first =>
      have hcf := call_efn i h39 g
      go_region_law (first
          | (go_simp; go_at_call 50; refine (effects_any g (kd i) HQ.out W.drew).mono ?_; rintro e w3 ⟨rfl, hm, hb⟩; (replace hb := from_drew hb); (have hlk : (Instr.lookup 97 (.map (some W.heap.size)) (.string (nm i)) false).run Tryz.prog w3 = .ok (.func (.func (efn i)) #[.pointer (some ⟨g, 0, none⟩)] #[]) w3 := run_lookF 97 9 1 W.heap.size (tabK (kd i) g) (nm i) n _ Tryz.underlying97 Tryz.underlying9 hm HLK.out); (have H3 := Lib.hid (HS.out.below hb (Nat.le_refl _))); (have D2 := Lib.hid (W2.out.below hb (by omega))); (have D3 := Lib.hid (W3.out.below hb (by omega))); (have DX := Lib.hid (WX.out.trans (hb.mono WX.out.size))); (have r1 : w3.cell? ⟨go, 1, none⟩ = some (.string (nm i)) := (WO.out.below hb (by omega)).cell 1 _ rfl); clear hb hm)
          | (go_simp; have hEE := HE.out (w.heap.size + 4) g s0 v ea ec fa fc ca cc w3 HL0.out H3.out; with_reducible refine hEE.mono ?_; clear hEE; rintro e w4 ⟨rfl, h4, hb4⟩; (have H4 := Lib.hid h4); (have E2 := Lib.hid (D2.out.below hb4 (by omega))); (have E3 := Lib.hid (D3.out.below hb4 (by omega))); (have EX := Lib.hid (DX.out.trans (hb4.mono (by omega)))); clear h4 hb4)
          | fail)
      all_goals
        go_wp2
        go_meet
        exact ⟨rfl, rfl, rfl, rfl, H4.out, E2.out, E3.out, EX.out⟩
    case rest =>
      obtain ⟨rfl, rfl, rfl, rfl, ⟨vC, vO, vR, h5⟩, b2, b3, bx⟩ := hcut
      obtain ⟨A1, n1, e1, rfl⟩ := h5.c.shape
      obtain ⟨A2, n2, e2, rfl⟩ := h5.o.shape
      obtain ⟨A3, n3, e3, rfl⟩ := h5.d.shape
      rw [HEQ.out] at h5
      obtain ⟨s1, hs1⟩ : ∃ s1, E { r := r', cells := [], outs := [], reads := fRds r, cyc := cy i, op := (i : Int) + 1, k := k, ss := ss, sa := sa } v = s1 := ⟨_, rfl⟩
      rw [hs1] at h5
      have HE1 := Lib.hid hs1
      have C1 := Lib.hid h5.c
      have C2 := Lib.hid h5.o
      have C3 := Lib.hid h5.d
      have B2 := Lib.hid b2
      have B3 := Lib.hid b3
      have BX := Lib.hid bx
      have H5 := Lib.hid h5.b
      have c24 := h5.b.cell 24 _ rfl
      clear h5 b2 b3 bx HS W2 W3 WO WX HE hs1
      go_upto_region 7 with (fail)
      go_cut [4, 5, 12, 13, 57] (fun s4 s5 s12 s13 s57 wx => s4 = .pointer (some ⟨w.heap.size + 1 + 1, 0, none⟩) ∧ s5 = .pointer (some ⟨w.heap.size + 1 + 1 + 1, 0, none⟩) ∧ s12 = .int .i64 ms ∧ s13 = .pointer (some ⟨g, 0, none⟩) ∧ s57 = .bool (decide (rd = true ∧ ms ≠ 0)) ∧ wx = wc)
      case first =>
        by_cases hms : ms = 0
        · have t0 : (ms == 0) = true := by rw [beq_iff_eq]; exact hms
          have E0 : Hid (decide (rd = true ∧ ms ≠ 0) = false) := decide_eq_false (fun c => c.2 hms)
          have T1 : Hid ((ms != 0) = decide (True ∧ ms ≠ 0)) := by unfold Hid; simp [hms]
          clear hms
          cases rd
          all_goals
            go_wp2
            go_meet
            exact ⟨rfl, rfl, rfl, rfl, by first | exact congrArg Value.bool T1.out | exact congrArg Value.bool E0.out.symm, rfl⟩
        · have t0 : (ms == 0) = false := by rw [beq_eq_false_iff_ne]; exact hms
          have T1 : Hid ((ms != 0) = decide (True ∧ ms ≠ 0)) := by unfold Hid; simp [hms]
          have E0 : Hid (decide (rd = true ∧ ms ≠ 0) = rd) := by cases rd <;> simp [Hid, hms] <;> exact hms
          clear hms
          cases rd
          all_goals
            go_wp2
            go_meet
            exact ⟨rfl, rfl, rfl, rfl, by first | exact congrArg Value.bool T1.out | exact congrArg Value.bool E0.out.symm, rfl⟩
      case rest =>
        obtain ⟨rfl, rfl, rfl, rfl, rfl, hwz2⟩ := hcut
        subst hwz2
        clear c24
        by_cases hno : rd = true ∧ ms ≠ 0
        · obtain ⟨rfl, hms⟩ := hno
          have HMN := Lib.hid hms
          rw [show decide (true = true ∧ ms ≠ 0) = true by simp [hms]]
          clear hms
          have I1 := Lib.hid (show (Tryz.prog.info? 26).map (·.size) = some (rgList rg0).length by kernel_rfl)
          have I2 := Lib.hid (show (Tryz.prog.info? 48).map (·.size) = some dnL0.length by kernel_rfl)
          have O1 := Lib.hid (show ∀ v ∈ rgList rg0, v.oneCell' = true by simp [rgList, rg0, Value.oneCell'])
          have O2 := Lib.hid (show ∀ v ∈ dnL0, v.oneCell' = true by simp [dnL0, dnL, Value.oneCell'])
          have NE := Lib.hid (show w.heap.size + 1 + 1 ≠ w.heap.size + 1 + 1 + 1 by omega)
          go_upto_region 8 with (fail)
          rename_i K hK
          have HK := Lib.hid hK
          clear hK
          go_wp2_with (first
            | ((with_reducible show wpList _ _ _ [_, _, _] _ _); refine wp_tail3 rfl rfl rfl _ _ _ _ _ _ _ _ rfl rfl rfl rfl rfl rfl (w.heap.size + 1 + 1) (w.heap.size + 1 + 1 + 1) (rgList rg0) dnL0 (rgList rg0) dnL0 (.int .i64 ms) NE.out B2.out B3.out rfl rfl rfl rfl rfl rfl rfl I1.out I2.out O1.out O2.out ?_; show K _ _; refine HK.out _ _ (wp_ret ?_); simp only [Exit.then]; change bodyPost _ _ _ _ _ (setAll (setAll wc (w.heap.size + 1 + 1) 0 (rgList rg0)) (w.heap.size + 1 + 1 + 1) 0 dnL0); exact step_miss w wc ms _ B2.out B3.out BX.out HMN.out _ rfl rfl rfl rfl)
            | fail)
        · have R0 := Lib.hid hno
          rw [decide_eq_false hno]
          clear hno
          go_upto_region 9 with (fail)
          have F2 := B2.out
          have F3 := B3.out
          have F5 := H5.out
          have p0 := F2.cell 0 _ rfl; have p1 := F2.cell 1 _ rfl; have p2 := F2.cell 2 _ rfl; have p3 := F2.cell 3 _ rfl; have p4 := F2.cell 4 _ rfl; have p5 := F2.cell 5 _ rfl; have p6 := F2.cell 6 _ rfl; have p7 := F2.cell 7 _ rfl; have p8 := F2.cell 8 _ rfl; have p9 := F2.cell 9 _ rfl; have p10 := F2.cell 10 _ rfl; have p11 := F2.cell 11 _ rfl; have p12 := F2.cell 12 _ rfl; have q0 := F2.free 0 _ rfl; have q1 := F2.free 1 _ rfl; have q2 := F2.free 2 _ rfl; have q3 := F2.free 3 _ rfl; have q4 := F2.free 4 _ rfl; have q5 := F2.free 5 _ rfl; have q6 := F2.free 6 _ rfl; have q7 := F2.free 7 _ rfl; have q8 := F2.free 8 _ rfl; have q9 := F2.free 9 _ rfl; have q10 := F2.free 10 _ rfl; have q11 := F2.free 11 _ rfl; have q12 := F2.free 12 _ rfl; have m0 := F3.cell 0 _ rfl; have m1 := F3.cell 1 _ rfl; have m2 := F3.cell 2 _ rfl; have m3 := F3.cell 3 _ rfl; have m4 := F3.cell 4 _ rfl; have o0 := F3.free 0 _ rfl; have o1 := F3.free 1 _ rfl; have o2 := F3.free 2 _ rfl; have o3 := F3.free 3 _ rfl; have o4 := F3.free 4 _ rfl; have c0 := F5.cell 0 _ rfl; have c1 := F5.cell 1 _ rfl; have c2 := F5.cell 2 _ rfl; have c3 := F5.cell 3 _ rfl; have c4 := F5.cell 4 _ rfl; have c5 := F5.cell 5 _ rfl; have c6 := F5.cell 6 _ rfl; have c7 := F5.cell 7 _ rfl; have c8 := F5.cell 8 _ rfl; have c9 := F5.cell 9 _ rfl; have c10 := F5.cell 10 _ rfl; have c11 := F5.cell 11 _ rfl; have c12 := F5.cell 12 _ rfl; have c13 := F5.cell 13 _ rfl; have c14 := F5.cell 14 _ rfl; have c15 := F5.cell 15 _ rfl; have c16 := F5.cell 16 _ rfl; have c17 := F5.cell 17 _ rfl; have c18 := F5.cell 18 _ rfl; have c19 := F5.cell 19 _ rfl; have c20 := F5.cell 20 _ rfl; have c21 := F5.cell 21 _ rfl; have c22 := F5.cell 22 _ rfl; have c23 := F5.cell 23 _ rfl; have c24 := F5.cell 24 _ rfl
          clear F2 F3 F5 c13 c14 c15 c16 c17 c18 c24
          go_region
          rename_i K hK
          refine hK _ _ (wp_ret ?_)
          clear hK p0 p1 p2 p3 p4 p5 p6 p7 p8 p9 p10 p11 p12 q0 q1 q2 q3 q4 q5 q6 q7 q8 q9 q10 q11 q12 m0 m1 m2 m3 m4 o0 o1 o2 o3 o4 c0 c1 c2 c3 c4 c5 c6 c7 c8 c9 c10 c11 c12 c19 c20 c21 c22 c23
          change bodyPost _ _ _ _ _ (setAll (setAll wc (w.heap.size + 1 + 1) 0 (rgList s1.r)) (w.heap.size + 1 + 1 + 1) 0 (dnL (.slice A1 n1 e1) (.slice A2 n2 e2) (.slice A3 n3 e3) s1.cyc s1.op)).drew
          rw [HE1.out]
          exact step_tail w wc rd ms s1 A1 A2 A3 n1 n2 n3 e1 e2 e3 B2.out B3.out BX.out C1.out C2.out C3.out R0.out _ rfl rfl rfl rfl
end Go.Proofs.YtjjkikghfmnikaaGreatDoor
