/- Contracts of layer 5: the program's methods that append. -/
import Derived.Test.YtjjkikghfmnikaaGreatDoorQ20
import Derived.Deep.RegionLaw
set_option linter.unusedSimpArgs false
set_option linter.unusedVariables false
set_option maxRecDepth 100000
namespace Go.Proofs.YtjjkikghfmnikaaGreatDoor
open Go.ChangeShapes Go.WideShapes Go.ChangeAt Go.RowKit
set_option maxHeartbeats 2000000 in
theorem store_mem (B g : Nat) (s : St) (hr : Bool) (v : Vw) (ea : Option Addr) (ec : Nat) (fa : Option Addr) (fc : Nat) (ca : Option Addr) (cc : Nat) (a x : Int) (a0 : 8 ≤ a) (a1 : a ≤ 40000) (x0 : 0 ≤ x) (x1 : x ≤ 65535) (hl : s.len ≤ 1000) (w : World) (hs : HAt w B g s hr v ea ec fa fc ca cc) :
    Calls Tryz.prog 196 #[.pointer (some ⟨g, 0, none⟩), .int .i64 a, .int .u16 x] w fun e w' => e = .returned (.tuple #[]) ∧ HAt w' B g (s.put a x) hr v ea ec fa fc ca cc ∧ Below B w w' := by
  obtain ⟨vC, vO, vR, h0⟩ := hs
  have hlr : s.cells.length ≤ 1000 := by unfold St.len at hl; omega
  have Hl := Lib.hid hlr
  have HS := Lib.hid h0
  have hBw := Nat.le_trans h0.lo (Nat.le_of_lt h0.hi)
  have hBg := h0.lo
  have q19 : w.drew.cell? ⟨g, 19, none⟩ = some vC := h0.b.cell 19 _ rfl
  have q16 : w.drew.cell? ⟨g, 16, none⟩ = some (.int .i64 s.k) := h0.b.cell 16 _ rfl
  have yb : 0 ≤ oCorr x ∧ oCorr x ≤ 32767 := by unfold oCorr; omega
  have n0 : (a == 0) = false := by rw [beq_eq_false_iff_ne]; omega
  have n1 : (a == 1) = false := by rw [beq_eq_false_iff_ne]; omega
  have n2 : (a == 2) = false := by rw [beq_eq_false_iff_ne]; omega
  have n3 : (a == 3) = false := by rw [beq_eq_false_iff_ne]; omega
  have n4 : (a == 4) = false := by rw [beq_eq_false_iff_ne]; omega
  have n5 : (a == 5) = false := by rw [beq_eq_false_iff_ne]; omega
  have n6 : (a == 6) = false := by rw [beq_eq_false_iff_ne]; omega
  have n7 : (a == 7) = false := by rw [beq_eq_false_iff_ne]; omega
  unfold St.put
  rw [if_neg (by omega)]
  obtain ⟨y, hy⟩ : ∃ y, oCorr x = y := ⟨_, rfl⟩
  obtain ⟨z, hz⟩ : ∃ z, oEdit a y = z := ⟨_, rfl⟩
  rw [hy] at yb ⊢
  rw [hz]
  have HY := Lib.hid hy
  have HZ := Lib.hid hz
  clear hy hz h0 hl hlr
  go_enter Tryz.func196, Tryz.ntmps196
  go_upto_region 2 with (go_at_call 28; refine (Correct_any x x0 (by omega) _).mono ?_; rintro e w1 ⟨rfl, rfl⟩; rw [HY.out])
  go_region_law (first
      | (go_simp; go_at_call 197; refine (Edit_any a (by omega) (by omega) y (by omega) (by omega) w.drew).mono ?_; rintro e w3 ⟨rfl, hb⟩; rw [HZ.out]; (replace hb := from_drew hb); (have h3 := Lib.hid (HS.out.below hb (Nat.le_refl _))); (have X3 := Lib.hid (hb.mono hBw)); (have ha3 := h3.out.below ((Below.refl _ _).alloc (Nat.le_refl _) (.cells #[.int .i64 a, .int .u16 z] 56)) (Nat.le_refl _)); (have A3 := Lib.hid ha3); (have r16 : w3.cell? ⟨g, 16, none⟩ = some (.int .i64 s.k) := h3.out.b.cell 16 _ rfl); (have r19 : w3.cell? ⟨g, 19, none⟩ = some vC := h3.out.b.cell 19 _ rfl); (have s16 : (w3.alloc (.cells #[.int .i64 a, .int .u16 z] 56)).cell? ⟨g, 16, none⟩ = some (.int .i64 s.k) := ha3.b.cell 16 _ rfl); (have s19 : (w3.alloc (.cells #[.int .i64 a, .int .u16 z] 56)).cell? ⟨g, 19, none⟩ = some vC := ha3.b.cell 19 _ rfl); (have hz3 : w.heap.size ≤ w3.heap.size := hb.size); (have OU := Lib.hid (OwnP.one' .i64 .u16 56 w3 w3.heap.size a z rfl)); clear hb ha3)
      | (refine step_appP .i64 .u16 rfl _ _ 46 rfl 56 _ 16 Tryz.underlying46 info_cell5 rfl (w3.alloc (.cells #[.int .i64 a, .int .u16 z] 56)) B 0 vC _ s.cells [(a, z)] A3.out.c OU.out rfl rfl (by have := Hl.out; simp; omega) (Below.refl _ _) (by simp; omega) ?_; intro v' w4 ho hb hgr hown; (obtain ⟨A4, n4, q4, rfl⟩ := ho.shape); (have h4 := Lib.hid (A3.out.app_c ho hb hgr hown)); (have b4 := A3.out.b.grown hgr A3.out.hi A3.out.cg); (have f19 : w4.frozen? ⟨g, 19, none⟩ = false := b4.free 19 _ rfl); (have c19 : w4.cell? ⟨g, 19, none⟩ = some vC := b4.cell 19 _ rfl); (have t16 : w4.cell? ⟨g, 16, none⟩ = some (.int .i64 s.k) := b4.cell 16 _ rfl); (have z16 : ∀ y, (w4.setCell ⟨g, 19, none⟩ y).cell? ⟨g, 16, none⟩ = some (.int .i64 s.k) := fun y => (b4.set 19 (by simp [hL]) y).cell 16 _ rfl); (have X4 := Lib.hid (((X3.out.alloc (by omega) (.cells #[.int .i64 a, .int .u16 z] 56)).trans hb).setCell (p := ⟨g, 19, none⟩) hBg (.slice A4 n4 q4))); clear ho hb hgr hown b4)
      | fail)
  all_goals
    go_wp2
    go_end0
    exact ⟨rfl, ⟨_, _, _, h4.out⟩, X4.out⟩
theorem store_any (B g : Nat) (s : St) (hr : Bool) (v : Vw) (ea : Option Addr) (ec : Nat) (fa : Option Addr) (fc : Nat) (ca : Option Addr) (cc : Nat) (a x : Int) (a0 : 0 ≤ a) (a1 : a ≤ 40000) (x0 : 0 ≤ x) (x1 : x ≤ 65535) (hl : s.len ≤ 1000) (w : World) (hs : HAt w B g s hr v ea ec fa fc ca cc) :
    Calls Tryz.prog 196 #[.pointer (some ⟨g, 0, none⟩), .int .i64 a, .int .u16 x] w fun e w' => e = .returned (.tuple #[]) ∧ HAt w' B g (s.put a x) hr v ea ec fa fc ca cc ∧ Below B w w' := by
  by_cases c : a ≤ 7
  · exact store_reg B g s hr v ea ec fa fc ca cc a x a0 c x0 x1 w hs
  · exact store_mem B g s hr v ea ec fa fc ca cc a x (by omega) a1 x0 x1 hl w hs
theorem sp_bd {s a : Int} (h : spotOk s a) : 0 ≤ a ∧ a ≤ 40000 := by
  obtain ⟨_, _, h2, h3⟩ := h
  split at h3 <;> omega
theorem put_any (B g : Nat) (s : St) (hr : Bool) (v : Vw) (ea : Option Addr) (ec : Nat) (fa : Option Addr) (fc : Nat) (ca : Option Addr) (cc : Nat) (x : Int) (x0 : 0 ≤ x) (x1 : x ≤ 65535) (hl : s.len ≤ 1000) (w : World) (hs : HAt w B g s hr v ea ec fa fc ca cc) :
    Calls Tryz.prog 190 #[.pointer (some ⟨g, 0, none⟩), .int .u16 x] w fun e w' => e = .returned (.tuple #[]) ∧ HAt w' B g (s.put s.sa x) hr v ea ec fa fc ca cc ∧ Below B w w' := by
  have HS := Lib.hid hs
  obtain ⟨vC, vO, vR, h0⟩ := hs
  have c18 := h0.b.cell 18 _ rfl
  have sb := sp_bd h0.sp
  clear h0
  go_enter Tryz.func190, Tryz.ntmps190
  go_wp2_with (go_at_call 196; refine (store_any B g s hr v ea ec fa fc ca cc s.sa x sb.1 sb.2 x0 x1 hl _ HS.out).mono ?_; rintro e w1 ⟨rfl, h1, hb⟩)
  go_end0
  exact ⟨rfl, h1, hb⟩
theorem putAfter_any (B g : Nat) (s : St) (hr : Bool) (v : Vw) (ea : Option Addr) (ec : Nat) (fa : Option Addr) (fc : Nat) (ca : Option Addr) (cc : Nat) (x : Int) (x0 : 0 ≤ x) (x1 : x ≤ 65535) (hl : s.len ≤ 1000) (w : World) (hs : HAt w B g s hr v ea ec fa fc ca cc) :
    Calls Tryz.prog 189 #[.pointer (some ⟨g, 0, none⟩), .int .u16 x] w fun e w' => e = .returned (.tuple #[]) ∧ HAt w' B g (s.put (nxtP s.ss s.sa) x) hr v ea ec fa fc ca cc ∧ Below B w w' := by
  have HS := Lib.hid hs
  obtain ⟨vC, vO, vR, h0⟩ := hs
  have c17 := h0.b.cell 17 _ rfl
  have c18 := h0.b.cell 18 _ rfl
  have Hsp := Lib.hid h0.sp
  have sb := sp_bd h0.sp.next
  have hBw := Nat.le_trans h0.lo (Nat.le_of_lt h0.hi)
  have fd : ∀ w : World, (Instr.field 59 (.agg #[.int .u8 s.ss, .int .i64 (nxtP s.ss s.sa)]) 1).run Tryz.prog w = .ok (.int .i64 (nxtP s.ss s.sa)) w := fun _ => by kernel_rfl
  clear h0
  go_enter Tryz.func189, Tryz.ntmps189
  go_wp2_with (first
    | (go_at_call 184; refine (after_P s.ss s.sa Hsp.out _).mono ?_; rintro e w1 ⟨rfl, hb⟩; (have H1 := Lib.hid (HS.out.below hb (Nat.le_refl _))); (have X1 := Lib.hid (hb.mono hBw)); clear hb)
    | (go_at_call 196; refine (store_any B g s hr v ea ec fa fc ca cc (nxtP s.ss s.sa) x sb.1 sb.2 x0 x1 hl _ H1.out).mono ?_; rintro e w2 ⟨rfl, h2, hb⟩))
  go_end0
  exact ⟨rfl, h2, X1.out.trans hb⟩
def outR (r : Rg) (k x : Int) : Rg := if k = 1 then { r with L := x } else if k = 2 then { r with Q := x } else { r with Su := x / 16 % 8 }
def St.out (s : St) (x : Int) : St := if s.k = 1 ∨ s.k = 2 ∨ s.k = 7 then { s with r := outR s.r s.k x } else { s with outs := s.outs ++ [(s.k, x)] }
set_option maxHeartbeats 2000000 in
theorem output_any (B g : Nat) (s : St) (hr : Bool) (v : Vw) (ea : Option Addr) (ec : Nat) (fa : Option Addr) (fc : Nat) (ca : Option Addr) (cc : Nat) (x : Int) (x0 : 0 ≤ x) (x1 : x ≤ 32767) (hl : s.len ≤ 1000) (w : World) (hs : HAt w B g s hr v ea ec fa fc ca cc) :
    Calls Tryz.prog 158 #[.pointer (some ⟨g, 0, none⟩), .int .u16 x] w fun e w' => e = .returned (.tuple #[]) ∧ HAt w' B g (s.out x) hr v ea ec fa fc ca cc ∧ Below B w w' := by
  obtain ⟨vC, vO, vR, h0⟩ := hs
  have hlr : s.outs.length ≤ 1000 := by unfold St.len at hl; omega
  have Hl := Lib.hid hlr
  have HS := Lib.hid h0
  have OK := Lib.hid h0.ok
  have hBw := Nat.le_trans h0.lo (Nat.le_of_lt h0.hi)
  have hBg := h0.lo
  have c16 := h0.b.cell 16 _ rfl
  have c1 := h0.b.cell 1 _ rfl
  have c2 := h0.b.cell 2 _ rfl
  have c6 := h0.b.cell 6 _ rfl
  have f1 := h0.b.free 1 _ rfl
  have f2 := h0.b.free 2 _ rfl
  have f6 := h0.b.free 6 _ rfl
  unfold St.out outR
  by_cases d : s.k = 1 ∨ s.k = 2 ∨ s.k = 7
  · rw [if_pos d]
    clear h0 hl hlr
    rcases d with e | e | e
    · rw [if_pos e]
      rw [e] at c16
      clear e
      go_enter Tryz.func158, Tryz.ntmps158
      go_wp2
      go_end0
      exact ⟨rfl, ⟨vC, vO, vR, HS.out.set 1 (by omega) _ _ s.cyc hr rfl (ok_L OK.out x0 x1)⟩, (Below.refl B w).setCell (p := ⟨g, 1, none⟩) HS.out.lo _⟩
    · rw [if_neg (by omega), if_pos e]
      rw [e] at c16
      clear e
      go_enter Tryz.func158, Tryz.ntmps158
      go_wp2
      go_end0
      exact ⟨rfl, ⟨vC, vO, vR, HS.out.set 2 (by omega) _ _ s.cyc hr rfl (ok_Q OK.out x0 x1)⟩, (Below.refl B w).setCell (p := ⟨g, 2, none⟩) HS.out.lo _⟩
    · rw [if_neg (by omega), if_neg (by omega)]
      rw [e] at c16
      clear e
      go_enter Tryz.func158, Tryz.ntmps158
      go_wp2_with (go_at_call 150; refine (part_any x 16 8 _ rfl (by omega) (by omega) (by omega) (by omega) (by omega) _).mono ?_; rintro e w1 ⟨rfl, rfl⟩)
      go_end0
      exact ⟨rfl, ⟨vC, vO, vR, HS.out.set 6 (by omega) _ _ s.cyc hr rfl (ok_Su OK.out (by omega) (by omega))⟩, (Below.refl B w).setCell (p := ⟨g, 6, none⟩) HS.out.lo _⟩
  · rw [if_neg d]
    have t1 : (s.k == 1) = false := by rw [beq_eq_false_iff_ne]; omega
    have t2 : (s.k == 2) = false := by rw [beq_eq_false_iff_ne]; omega
    have t3 : (s.k == 7) = false := by rw [beq_eq_false_iff_ne]; omega
    have q20 : w.drew.cell? ⟨g, 20, none⟩ = some vO := h0.b.cell 20 _ rfl
    have q16 : w.drew.cell? ⟨g, 16, none⟩ = some (.int .i64 s.k) := h0.b.cell 16 _ rfl
    have ha3 := h0.below ((Below.refl _ _).alloc (Nat.le_refl _) (.cells #[.int .i64 s.k, .int .u16 x] 56)) (Nat.le_refl _)
    have A3 := Lib.hid ha3.drew
    have X3 := Lib.hid (((Below.refl w.heap.size w).alloc (Nat.le_refl _) (.cells #[.int .i64 s.k, .int .u16 x] 56)).mono hBw).drew
    have s16 : (w.alloc (.cells #[.int .i64 s.k, .int .u16 x] 56)).drew.cell? ⟨g, 16, none⟩ = some (.int .i64 s.k) := ha3.b.cell 16 _ rfl
    have s20 : (w.alloc (.cells #[.int .i64 s.k, .int .u16 x] 56)).drew.cell? ⟨g, 20, none⟩ = some vO := ha3.b.cell 20 _ rfl
    have OU := Lib.hid (OwnP.one' .i64 .u16 56 w w.heap.size s.k x rfl).drew
    clear h0 hl hlr d ha3 c1 c2 c6 f1 f2 f6
    go_enter Tryz.func158, Tryz.ntmps158
    go_upto_region 1 with (fail)
    go_region_law (first
        | (refine step_appP .i64 .u16 rfl _ _ 46 rfl 56 _ 16 Tryz.underlying46 info_cell5 rfl (w.alloc (.cells #[.int .i64 s.k, .int .u16 x] 56)).drew B 0 vO _ s.outs [(s.k, x)] A3.out.o OU.out rfl rfl (by have := Hl.out; simp; omega) (Below.refl _ _) (by simp; omega) ?_; intro v' w4 ho hb hgr hown; (obtain ⟨A4, n4, q4, rfl⟩ := ho.shape); (have h4 := Lib.hid (A3.out.app_o ho hb hgr hown)); (have b4 := A3.out.b.grown hgr A3.out.hi A3.out.og); (have f20 : w4.frozen? ⟨g, 20, none⟩ = false := b4.free 20 _ rfl); (have c20 : w4.cell? ⟨g, 20, none⟩ = some vO := b4.cell 20 _ rfl); (have t16 : w4.cell? ⟨g, 16, none⟩ = some (.int .i64 s.k) := b4.cell 16 _ rfl); (have z16 : ∀ y, (w4.setCell ⟨g, 20, none⟩ y).cell? ⟨g, 16, none⟩ = some (.int .i64 s.k) := fun y => (b4.set 20 (by simp [hL]) y).cell 16 _ rfl); (have X4 := Lib.hid ((X3.out.trans hb).setCell (p := ⟨g, 20, none⟩) hBg (.slice A4 n4 q4))); clear ho hb hgr hown b4)
        | fail)
    all_goals
      go_wp2
      go_end0
      exact ⟨rfl, ⟨_, _, _, h4.out⟩, X4.out⟩
end Go.Proofs.YtjjkikghfmnikaaGreatDoor
