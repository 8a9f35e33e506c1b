/- Contracts of layer 5: the program's methods that read. -/
import Derived.Test.YtjjkikghfmnikaaGreatDoorQ16
import Derived.Deep.RegionLaw
set_option linter.unusedSimpArgs false
set_option linter.unusedVariables false
namespace Go.Proofs.YtjjkikghfmnikaaGreatDoor
open Go.ChangeShapes Go.WideShapes Go.ChangeAt Go.RowKit
set_option maxHeartbeats 1000000 in
theorem after_P (s a : Int) (hs : spotOk s a) (w : World) :
    Calls Tryz.prog 184 #[.agg #[.int .u8 s, .int .i64 a]] w fun e w' => e = .returned (.agg #[.int .u8 s, .int .i64 (nxtP s a)]) ∧ Below w.heap.size w w' := by
  obtain ⟨h0, h1, h2, h3⟩ := hs
  by_cases c : s = 1
  · subst c
    simp only [if_true] at h3
    have e1 : (a + 1).tmod 2048 = nxtP 1 a := by rw [Int.tmod_eq_emod_of_nonneg (by omega)]; rfl
    generalize nxtP 1 a = x at e1 ⊢
    go_enter Tryz.func184, Tryz.ntmps184
    go_wp2
    go_region
    go_wp2
    exact ret_struct1 Tryz.results184 Tryz.underlying59 [.int .u8 1, .int .i64 x] (by kernel_rfl) (w.heap.size + 1) rfl (at_allocN (by simp) [.int .u8 1, .int .i64 x]) rfl ⟨rfl, (below2 _ _ _).drew⟩
  · rw [if_neg c] at h3
    have t : (s == 1) = false := by rw [beq_eq_false_iff_ne]; exact c
    have e1 : (a + 1).tmod 36864 = nxtP s a := by unfold nxtP; rw [if_neg c]; exact Int.tmod_eq_emod_of_nonneg (by omega)
    generalize nxtP s a = x at e1 ⊢
    go_enter Tryz.func184, Tryz.ntmps184
    go_wp2
    go_region
    go_wp2
    exact ret_struct1 Tryz.results184 Tryz.underlying59 [.int .u8 s, .int .i64 x] (by kernel_rfl) (w.heap.size + 1) rfl (at_allocN (by simp) [.int .u8 s, .int .i64 x]) rfl ⟨rfl, (below2 _ _ _).drew⟩
set_option maxHeartbeats 1000000 in
theorem listed_P (s a : Int) (B : Nat) (w : World) (hB : B ≤ w.heap.size) :
    Calls Tryz.prog 41 #[.agg #[.int .u8 s, .int .i64 a]] w fun e w' => ∃ vl, e = .returned vl ∧ OwnP .u8 .i64 59 w' B vl (rdsP s a) ∧ Below w.heap.size w w' := by
  have X0 := Lib.hid ((Below.refl w.heap.size w).alloc (Nat.le_refl _) (.cells #[.int .u8 s, .int .i64 a] 59))
  unfold rdsP
  by_cases c : s = 1 ∧ a < 8
  · rw [if_pos c]
    have HD := Lib.hid (decide_eq_true c)
    clear c
    go_enter Tryz.func41, Tryz.ntmps41
    go_wp2_with (go_at_call 74; refine (isRegister_any s a true HD.out _).mono ?_; rintro e w1 ⟨rfl, hb⟩; (have X1 := Lib.hid (X0.out.trans (hb.mono X0.out.size))); clear hb)
    go_ret
    exact ⟨_, rfl, OwnP.nil _ _ _ _ _, X1.out⟩
  · rw [if_neg c]
    have HD := Lib.hid (decide_eq_false c)
    clear c
    go_enter Tryz.func41, Tryz.ntmps41
    go_wp2_with (go_at_call 74; refine (isRegister_any s a false HD.out _).mono ?_; rintro e w1 ⟨rfl, hb⟩; (obtain ⟨hk1, hl1⟩ := bcell hb); (have hz1 : w.heap.size < w1.heap.size := by have := hb.size; simp at this; omega); (have X1 := Lib.hid (X0.out.trans (hb.mono X0.out.size))); clear hb)
    go_ret
    exact ⟨_, rfl, OwnP.one .u8 .i64 _ w1 B _ s a (Nat.le_trans hB X1.out.size) rfl, X1.out.alloc X1.out.size _⟩
set_option maxHeartbeats 1000000 in
theorem valueAt_P (r : Rg) (hm : r.ok) (v : Vw) (ea : Option Addr) (ec : Nat) (fa : Option Addr) (fc : Nat) (ca : Option Addr) (cc : Nat) (s a x : Int) (hx : valP r v s a = x) (a0 : 0 ≤ a) (w : World) (hv : VwAt w v ea fa ca) :
    Calls Tryz.prog 40 #[.agg #[.int .u16 r.A, .int .u16 r.L, .int .u16 r.Q, .int .i64 r.Z, .int .i64 r.EB, .int .i64 r.FB, .int .i64 r.Su, .bool r.Ex, .int .u16 r.Ix, .bool r.Hd, .int .u16 r.B, .bool r.Ih, .bool r.Sv], .agg #[.slice ea v.ne ec, .slice fa v.nf fc, .slice ca v.nc cc], .agg #[.int .u8 s, .int .i64 a]] w fun e w' => e = .returned (.int .u16 x) ∧ Below w.heap.size w w' := by
  by_cases c : s = 1
  · subst c
    exact valueAt_any r hm.1 hm.2 v ea ec fa fc ca cc 1 a x (by rw [← hx]; rfl) (.inl rfl) a0 w hv
  · have HV := Lib.hid hv
    have bf := wd_bd v.nf v.zf a
    have X0 := Lib.hid (below3 w (.cells #[.int .u16 r.A, .int .u16 r.L, .int .u16 r.Q, .int .i64 r.Z, .int .i64 r.EB, .int .i64 r.FB, .int .i64 r.Su, .bool r.Ex, .int .u16 r.Ix, .bool r.Hd, .int .u16 r.B, .bool r.Ih, .bool r.Sv] 26) (.cells #[.slice ea v.ne ec, .slice fa v.nf fc, .slice ca v.nc cc] 29) (.cells #[.int .u8 s, .int .i64 a] 59))
    have HD : Hid (decide (s = 1 ∧ a < 8) = false) := decide_eq_false (fun h => absurd h.1 c)
    have t : (s == 1) = false := by rw [beq_eq_false_iff_ne]; exact c
    have HE : Hid (oExt (wd v.nf v.zf a) = x) := by rw [← hx]; unfold valP; rw [if_neg c]; exact rfl
    clear hm hv hx c
    go_enter Tryz.func40, Tryz.ntmps40
    go_wp2_with (first
      | (go_at_call 74; refine (isRegister_any s a false HD.out _).mono ?_; rintro e w1 ⟨rfl, hb⟩; (obtain ⟨hk1, hl1⟩ := bcell hb); (have X1 := Lib.hid (X0.out.trans (hb.mono X0.out.size))); clear hb)
      | (go_at_call 76; refine (wordAt_any fa v.nf fc v.zf a _ rfl a0 HV.out.lf _ (HV.out.f.below X1.out (Nat.le_refl _)) HV.out.bf).mono ?_; rintro e w1 ⟨rfl, rfl⟩)
      | (go_at_call 26; refine (Extend_any _ (by omega) (by omega) _).mono ?_; rintro e w1 ⟨rfl, rfl⟩))
    go_ret
    exact ⟨ret_int HE.out, X1.out⟩
def St.len (s : St) : Nat := s.cells.length + s.outs.length + s.reads.length
def St.rd (s : St) (ss sa : Int) : St := { s with reads := s.reads ++ rdsP ss sa }
theorem rdsP_len (s a : Int) : (rdsP s a).length ≤ 1 := by unfold rdsP; split <;> simp
theorem St.len_rd (s : St) (ss sa : Int) : (s.rd ss sa).len ≤ s.len + 1 := by
  have := rdsP_len ss sa
  unfold St.rd St.len; simp; omega
def HAt (w : World) (B g : Nat) (s : St) (hr : Bool) (v : Vw) (ea : Option Addr) (ec : Nat) (fa : Option Addr) (fc : Nat) (ca : Option Addr) (cc : Nat) : Prop := ∃ vC vO vR, HIn w B g s hr v ea ec fa fc ca cc vC vO vR
theorem HAt.below {w w' : World} {B g : Nat} {s : St} {hr : Bool} {v : Vw} {ea : Option Addr} {ec : Nat} {fa : Option Addr} {fc : Nat} {ca : Option Addr} {cc : Nat} {B' : Nat} (h : HAt w B g s hr v ea ec fa fc ca cc) (hb : Below B' w w') (hB : w.heap.size ≤ B') : HAt w' B g s hr v ea ec fa fc ca cc := by
  obtain ⟨vC, vO, vR, h0⟩ := h
  exact ⟨vC, vO, vR, h0.below hb hB⟩
theorem info_spot : (Tryz.prog.info? 59).map (fun i => (i.zero, i.size, i.bytes)) = some (some (.agg #[.int .u8 0, .int .i64 0]), 2, 16) := by kernel_rfl
theorem VwAt.under {w w' : World} {v : Vw} {ea fa ca : Option Addr} {B : Nat} (h : VwAt w v ea fa ca) (vB : ∀ u u', VwAt u v ea fa ca → Below B u u' → VwAt u' v ea fa ca) (hb : Below B w w') : VwAt w' v ea fa ca := vB _ _ h hb
theorem HIn.new {w : World} {B g : Nat} {s : St} {hr : Bool} {v : Vw} {ea : Option Addr} {ec : Nat} {fa : Option Addr} {fc : Nat} {ca : Option Addr} {cc : Nat} {vC vO vR : Value} (h : HIn w B g s hr v ea ec fa fc ca cc vC vO vR) : some w.heap.size ≠ some (Addr.block ⟨g, 0, none⟩) := fun c => by
  have := h.hi
  have c2 : w.heap.size = g := by simpa using c
  omega
theorem HIn.app_c {w w' : World} {B g : Nat} {s : St} {hr : Bool} {v : Vw} {ea : Option Addr} {ec : Nat} {fa : Option Addr} {fc : Nat} {ca : Option Addr} {cc : Nat} {vC vO vR v' : Value} {M : List (Int × Int)} (h : HIn w B g s hr v ea ec fa fc ca cc vC vO vR)
    (ho : OwnP .i64 .u16 56 w' B v' (s.cells ++ M)) (hb : Below B w w') (hgr : w.grownBy w' vC.ownBlock) (hown : v'.ownBlock = vC.ownBlock ∨ v'.ownBlock = some w.heap.size) : HIn (w'.setCell ⟨g, 19, none⟩ v') B g { s with cells := s.cells ++ M } hr v ea ec fa fc ca cc v' vO vR where
  b := (h.b.grown hgr h.hi h.cg).set 19 (by simp [hL]) v'
  lo := h.lo
  hi := by simp; exact Nat.lt_of_lt_of_le h.hi hgr.size
  vw := (h.vw.under h.vB hb).low h.vB h.lo _ _
  vB := h.vB
  c := Own2.other ho (by rcases hown with e | e <;> rw [e]; exact h.cg; exact h.new) v'
  o := Own2.other (OwnP.grown h.o hgr (fun j a b => h.co j b a)) h.og v'
  d := Own2.other (OwnP.grown h.d hgr (fun j a b => h.cd j b a)) h.dg v'
  cg := by rcases hown with e | e <;> rw [e]; exact h.cg; exact h.new
  og := h.og
  dg := h.dg
  co := fun j a b => by
    rcases hown with e | e <;> rw [e] at a
    · exact h.co j a b
    · have := OwnP.lt h.o j b; injection a; omega
  cd := fun j a b => by
    rcases hown with e | e <;> rw [e] at a
    · exact h.cd j a b
    · have := OwnP.lt h.d j b; injection a; omega
  od := h.od
  ok := h.ok
  kb := h.kb
  sp := h.sp
theorem HIn.app_o {w w' : World} {B g : Nat} {s : St} {hr : Bool} {v : Vw} {ea : Option Addr} {ec : Nat} {fa : Option Addr} {fc : Nat} {ca : Option Addr} {cc : Nat} {vC vO vR v' : Value} {M : List (Int × Int)} (h : HIn w B g s hr v ea ec fa fc ca cc vC vO vR)
    (ho : OwnP .i64 .u16 56 w' B v' (s.outs ++ M)) (hb : Below B w w') (hgr : w.grownBy w' vO.ownBlock) (hown : v'.ownBlock = vO.ownBlock ∨ v'.ownBlock = some w.heap.size) : HIn (w'.setCell ⟨g, 20, none⟩ v') B g { s with outs := s.outs ++ M } hr v ea ec fa fc ca cc vC v' vR where
  b := (h.b.grown hgr h.hi h.og).set 20 (by simp [hL]) v'
  lo := h.lo
  hi := by simp; exact Nat.lt_of_lt_of_le h.hi hgr.size
  vw := (h.vw.under h.vB hb).low h.vB h.lo _ _
  vB := h.vB
  c := Own2.other (OwnP.grown h.c hgr h.co) h.cg v'
  o := Own2.other ho (by rcases hown with e | e <;> rw [e]; exact h.og; exact h.new) v'
  d := Own2.other (OwnP.grown h.d hgr (fun j a b => h.od j b a)) h.dg v'
  cg := h.cg
  og := by rcases hown with e | e <;> rw [e]; exact h.og; exact h.new
  dg := h.dg
  co := fun j a => by
    rcases hown with e | e <;> rw [e]
    · exact h.co j a
    · intro c; have := OwnP.lt h.c j a; injection c; omega
  cd := h.cd
  od := fun j a b => by
    rcases hown with e | e <;> rw [e] at a
    · exact h.od j a b
    · have := OwnP.lt h.d j b; injection a; omega
  ok := h.ok
  kb := h.kb
  sp := h.sp
theorem HIn.app_d {w w' : World} {B g : Nat} {s : St} {hr : Bool} {v : Vw} {ea : Option Addr} {ec : Nat} {fa : Option Addr} {fc : Nat} {ca : Option Addr} {cc : Nat} {vC vO vR v' : Value} {M : List (Int × Int)} (h : HIn w B g s hr v ea ec fa fc ca cc vC vO vR)
    (ho : OwnP .u8 .i64 59 w' B v' (s.reads ++ M)) (hb : Below B w w') (hgr : w.grownBy w' vR.ownBlock) (hown : v'.ownBlock = vR.ownBlock ∨ v'.ownBlock = some w.heap.size) : HIn (w'.setCell ⟨g, 21, none⟩ v') B g { s with reads := s.reads ++ M } hr v ea ec fa fc ca cc vC vO v' where
  b := (h.b.grown hgr h.hi h.dg).set 21 (by simp [hL]) v'
  lo := h.lo
  hi := by simp; exact Nat.lt_of_lt_of_le h.hi hgr.size
  vw := (h.vw.under h.vB hb).low h.vB h.lo _ _
  vB := h.vB
  c := Own2.other (OwnP.grown h.c hgr h.cd) h.cg v'
  o := Own2.other (OwnP.grown h.o hgr h.od) h.og v'
  d := Own2.other ho (by rcases hown with e | e <;> rw [e]; exact h.dg; exact h.new) v'
  cg := h.cg
  og := h.og
  dg := by rcases hown with e | e <;> rw [e]; exact h.dg; exact h.new
  co := h.co
  cd := fun j a => by
    rcases hown with e | e <;> rw [e]
    · exact h.cd j a
    · intro c; have := OwnP.lt h.c j a; injection c; omega
  od := fun j a => by
    rcases hown with e | e <;> rw [e]
    · exact h.od j a
    · intro c; have := OwnP.lt h.o j a; injection c; omega
  ok := h.ok
  kb := h.kb
  sp := h.sp
set_option maxRecDepth 100000 in
set_option maxHeartbeats 2000000 in
theorem read_any (B g : Nat) (s : St) (hr : Bool) (v : Vw) (ea : Option Addr) (ec : Nat) (fa : Option Addr) (fc : Nat) (ca : Option Addr) (cc : Nat) (ss sa x : Int) (hsp : spotOk ss sa) (hx : valP s.r v ss sa = x) (hl : s.len ≤ 1000) (w : World) (hs : HAt w B g s hr v ea ec fa fc ca cc) :
    Calls Tryz.prog 149 #[.pointer (some ⟨g, 0, none⟩), .agg #[.int .u8 ss, .int .i64 sa]] w fun e w' => e = .returned (.int .u16 x) ∧ HAt w' B g (s.rd ss sa) true v ea ec fa fc ca cc ∧ Below B w w' := by
  obtain ⟨vC, vO, vR, h0⟩ := hs
  have hlr : s.reads.length ≤ 1000 := by unfold St.len at hl; omega
  have Hsp := Lib.hid hsp
  have HX := Lib.hid hx
  have Hl := Lib.hid hlr
  have VR := Lib.hid (fun j hj => (OwnP.lt h0.d j hj).2)
  have hgl := h0.hi
  have hBg := h0.lo
  have f24 := h0.b.free 24 _ rfl
  have c24 := h0.b.cell 24 _ rfl
  have h1 := h0.set 24 (by omega) (.bool true) s.r s.cyc true rfl h0.ok
  have h2 := Lib.hid (h1.below ((Below.refl _ _).alloc (Nat.le_refl _) (.cells #[.int .u8 ss, .int .i64 sa] 59)) (Nat.le_refl _))
  have k2 := Lib.hid (Blk.new (w.setCell ⟨g, 24, none⟩ (.bool true)) 59 [.int .u8 ss, .int .i64 sa] w.heap.size (by simp))
  have X0 := Lib.hid (((Below.refl B w).setCell (p := ⟨g, 24, none⟩) hBg (.bool true)).alloc (by simp; omega) (.cells #[.int .u8 ss, .int .i64 sa] 59))
  have hz0 : ((w.setCell ⟨g, 24, none⟩ (.bool true)).alloc (.cells #[.int .u8 ss, .int .i64 sa] 59)).heap.size = w.heap.size + 1 := by simp
  clear hsp hx hl hlr h0 h1
  go_enter Tryz.func149, Tryz.ntmps149
  go_upto_region 2 with (fail)
  change Code.wp _ _ _ _ ((w.setCell ⟨g, 24, none⟩ (.bool true)).alloc (.cells #[.int .u8 ss, .int .i64 sa] 59))
  generalize (w.setCell ⟨g, 24, none⟩ (.bool true)).alloc (.cells #[.int .u8 ss, .int .i64 sa] 59) = W at h2 k2 X0 hz0 ⊢
  clear f24 c24
  have hgs : g ≠ w.heap.size := by omega
  go_cut [0, 3] (fun s0 s3 wx => s0 = .pointer (some ⟨g, 0, none⟩) ∧ s3 = .pointer (some ⟨w.heap.size, 0, none⟩) ∧ HAt wx B g (s.rd ss sa) true v ea ec fa fc ca cc ∧ Blk wx w.heap.size [.int .u8 ss, .int .i64 sa] ∧ Below B w wx ∧ w.heap.size < wx.heap.size)
  case first =>
    have q21 : W.drew.cell? ⟨g, 21, none⟩ = some vR := h2.out.b.cell 21 _ rfl
    have q0 : W.drew.cell? ⟨w.heap.size, 0, none⟩ = some (.int .u8 ss) := k2.out.cell 0 _ rfl
    have q1 : W.drew.cell? ⟨w.heap.size, 1, none⟩ = some (.int .i64 sa) := k2.out.cell 1 _ rfl
    go_region_law (first
        | (go_simp; go_at_call 41; refine (listed_P ss sa B W.drew (show B ≤ W.heap.size by omega)).mono ?_; rintro e w3 ⟨vl, rfl, ho, hb⟩; (replace hb := from_drew hb); (have r0 : w3.cell? ⟨w.heap.size, 0, none⟩ = some (.int .u8 ss) := (k2.out.below hb (by omega)).cell 0 _ rfl); (have r1 : w3.cell? ⟨w.heap.size, 1, none⟩ = some (.int .i64 sa) := (k2.out.below hb (by omega)).cell 1 _ rfl); (have h3 := Lib.hid (h2.out.below hb (Nat.le_refl _))); (have r21 : w3.cell? ⟨g, 21, none⟩ = some vR := h3.out.b.cell 21 _ rfl); (have k3 := Lib.hid (k2.out.below hb (by omega))); (have X3 := Lib.hid (X0.out.trans (hb.mono (show B ≤ W.heap.size by omega)))); (have hz3 : w.heap.size + 1 ≤ w3.heap.size := by have := hb.size; omega); (have HO := Lib.hid ho); clear hb ho)
        | (refine step_appP .u8 .i64 rfl _ _ 33 rfl 59 _ 16 Tryz.underlying33 info_spot rfl w3 B B vR vl s.reads (rdsP ss sa) h3.out.d HO.out rfl rfl (by have := rdsP_len ss sa; have := Hl.out; omega) (Below.refl _ _) (by omega) ?_; intro v' w4 ho hb hgr hown; (obtain ⟨A4, n4, q4, rfl⟩ := ho.shape); (have h4 := Lib.hid (h3.out.app_d ho hb hgr hown)); (have k4 := k3.out.grown hgr (by omega) (fun e => by have := VR.out _ e; omega)); (have f21 : w4.frozen? ⟨g, 21, none⟩ = false := (h3.out.b.grown hgr h3.out.hi h3.out.dg).free 21 _ rfl); (have c21 : w4.cell? ⟨g, 21, none⟩ = some vR := (h3.out.b.grown hgr h3.out.hi h3.out.dg).cell 21 _ rfl); (have z0 : ∀ y, (w4.setCell ⟨g, 21, none⟩ y).cell? ⟨w.heap.size, 0, none⟩ = some (.int .u8 ss) := fun y => (k4.other hgs 21 y).cell 0 _ rfl); (have z1 : ∀ y, (w4.setCell ⟨g, 21, none⟩ y).cell? ⟨w.heap.size, 1, none⟩ = some (.int .i64 sa) := fun y => (k4.other hgs 21 y).cell 1 _ rfl); (have K4 := Lib.hid (k4.other hgs 21 (.slice A4 n4 q4))); (have X4 := Lib.hid ((X3.out.trans hb).setCell (p := ⟨g, 21, none⟩) hBg (.slice A4 n4 q4))); (have hz4 : w.heap.size < w4.heap.size := by have := hgr.size; omega); (have t0 : w4.cell? ⟨w.heap.size, 0, none⟩ = some (.int .u8 ss) := k4.cell 0 _ rfl); (have t1 : w4.cell? ⟨w.heap.size, 1, none⟩ = some (.int .i64 sa) := k4.cell 1 _ rfl); clear ho hb hgr hown k4)
        | fail)
    all_goals
      go_wp2
      go_meet
      exact ⟨rfl, rfl, ⟨_, _, _, h4.out⟩, K4.out, X4.out, by simp; omega⟩
  case rest =>
    obtain ⟨rfl, rfl, ⟨vC5, vO5, vR5, h5⟩, k5, hb5, hz5⟩ := hcut
    have X5 := Lib.hid hb5
    have H5 := Lib.hid h5
    have K5 := Lib.hid k5
    have HX5 : Hid (valP (s.rd ss sa).r v ss sa = x) := HX.out
    have h5ok := h5.ok
    have OK5 := Lib.hid h5ok
    clear h5 k5 hb5 h2 k2 X0 hz0 h5ok
    have hg5 : g < wc.heap.size := by have := H5.out.hi; omega
    have hB5 : B ≤ wc.heap.size := by omega
    have a0 : 0 ≤ sa := Hsp.out.2.2.1
    go_upto_region 3 with (fail)
    go_region_held3 (fun w' => w'.cell? ⟨g, 0, none⟩ = some (.int .u16 s.r.A) ∧ w'.cell? ⟨g, 1, none⟩ = some (.int .u16 s.r.L) ∧ w'.cell? ⟨g, 2, none⟩ = some (.int .u16 s.r.Q) ∧ w'.cell? ⟨g, 3, none⟩ = some (.int .i64 s.r.Z) ∧ w'.cell? ⟨g, 4, none⟩ = some (.int .i64 s.r.EB) ∧ w'.cell? ⟨g, 5, none⟩ = some (.int .i64 s.r.FB) ∧ w'.cell? ⟨g, 6, none⟩ = some (.int .i64 s.r.Su) ∧ w'.cell? ⟨g, 7, none⟩ = some (.bool s.r.Ex) ∧ w'.cell? ⟨g, 8, none⟩ = some (.int .u16 s.r.Ix) ∧ w'.cell? ⟨g, 9, none⟩ = some (.bool s.r.Hd) ∧ w'.cell? ⟨g, 10, none⟩ = some (.int .u16 s.r.B) ∧ w'.cell? ⟨g, 11, none⟩ = some (.bool s.r.Ih) ∧ w'.cell? ⟨g, 12, none⟩ = some (.bool s.r.Sv) ∧ w'.cell? ⟨g, 13, none⟩ = some (.slice ea v.ne ec) ∧ w'.cell? ⟨g, 14, none⟩ = some (.slice fa v.nf fc) ∧ w'.cell? ⟨g, 15, none⟩ = some (.slice ca v.nc cc) ∧ w'.cell? ⟨w.heap.size, 0, none⟩ = some (.int .u8 ss) ∧ w'.cell? ⟨w.heap.size, 1, none⟩ = some (.int .i64 sa))
      (first
        | exact ⟨H5.out.b.cell 0 _ rfl, H5.out.b.cell 1 _ rfl, H5.out.b.cell 2 _ rfl, H5.out.b.cell 3 _ rfl, H5.out.b.cell 4 _ rfl, H5.out.b.cell 5 _ rfl, H5.out.b.cell 6 _ rfl, H5.out.b.cell 7 _ rfl, H5.out.b.cell 8 _ rfl, H5.out.b.cell 9 _ rfl, H5.out.b.cell 10 _ rfl, H5.out.b.cell 11 _ rfl, H5.out.b.cell 12 _ rfl, H5.out.b.cell 13 _ rfl, H5.out.b.cell 14 _ rfl, H5.out.b.cell 15 _ rfl, K5.out.cell 0 _ rfl, K5.out.cell 1 _ rfl⟩
        | exact ⟨H6.out.b.cell 0 _ rfl, H6.out.b.cell 1 _ rfl, H6.out.b.cell 2 _ rfl, H6.out.b.cell 3 _ rfl, H6.out.b.cell 4 _ rfl, H6.out.b.cell 5 _ rfl, H6.out.b.cell 6 _ rfl, H6.out.b.cell 7 _ rfl, H6.out.b.cell 8 _ rfl, H6.out.b.cell 9 _ rfl, H6.out.b.cell 10 _ rfl, H6.out.b.cell 11 _ rfl, H6.out.b.cell 12 _ rfl, H6.out.b.cell 13 _ rfl, H6.out.b.cell 14 _ rfl, H6.out.b.cell 15 _ rfl, K6.out.cell 0 _ rfl, K6.out.cell 1 _ rfl⟩)
      (first
        | (go_at_call 40; refine (valueAt_P s.r OK5.out v ea ec fa fc ca cc ss sa x HX.out a0 wc.drew (H5.out.drew.vw)).mono ?_; rintro e w6 ⟨rfl, hb⟩; (replace hb := from_drew hb); (have H6 := Lib.hid (H5.out.below hb (Nat.le_refl _))); (have K6 := Lib.hid (K5.out.below hb hz5)); (have X6 := Lib.hid (X5.out.trans (hb.mono hB5))); clear hb)
        | fail)
    go_wp2
    go_ret
    exact ⟨rfl, ⟨_, _, _, H6.out⟩, X6.out⟩
end Go.Proofs.YtjjkikghfmnikaaGreatDoor
