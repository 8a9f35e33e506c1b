/- Contracts of layer 5: the program's methods that write. -/
import Derived.Test.YtjjkikghfmnikaaGreatDoorQ19
set_option linter.unusedSimpArgs false
set_option linter.unusedVariables false
namespace Go.Proofs.YtjjkikghfmnikaaGreatDoor
open Go.ChangeShapes Go.WideShapes Go.ChangeAt Go.RowKit
theorem info_cell5 : (Tryz.prog.info? 56).map (fun i => (i.zero, i.size, i.bytes)) = some (some (.agg #[.int .i64 0, .int .u16 0]), 2, 16) := by kernel_rfl
/-- Continuing at the operand. -/
def St.jump (s : St) : St := { s with r := { s.r with Z := s.k }, cyc := 1 }
def St.branch (s : St) (y : Bool) : St := if y then s.jump else s
set_option maxHeartbeats 1000000 in
theorem branch_any (B g : Nat) (s : St) (hr : Bool) (v : Vw) (ea : Option Addr) (ec : Nat) (fa : Option Addr) (fc : Nat) (ca : Option Addr) (cc : Nat) (y : Bool) (w : World) (hs : HAt w B g s hr v ea ec fa fc ca cc) :
    Calls Tryz.prog 151 #[.pointer (some ⟨g, 0, none⟩), .bool y] w fun e w' => e = .returned (.tuple #[]) ∧ HAt w' B g (s.branch y) hr v ea ec fa fc ca cc ∧ Below B w w' := by
  obtain ⟨vC, vO, vR, h0⟩ := hs
  have c16 := h0.b.cell 16 _ rfl
  have c3 := h0.b.cell 3 _ rfl
  have c22 := h0.b.cell 22 _ rfl
  have f3 := h0.b.free 3 _ rfl
  have f22 := h0.b.free 22 _ rfl
  have HS := Lib.hid h0
  have kb := h0.kb
  clear h0
  cases y
  · go_enter Tryz.func151, Tryz.ntmps151
    go_wp2
    go_end0
    exact ⟨rfl, ⟨vC, vO, vR, HS.out⟩, Below.refl _ _⟩
  · go_enter Tryz.func151, Tryz.ntmps151
    go_wp2
    go_end0
    exact ⟨rfl, ⟨vC, vO, vR, (HS.out.set 3 (by omega) _ { s.r with Z := s.k } s.cyc hr rfl (ok_Z HS.out.ok kb.1 kb.2)).set 22 (by omega) _ { s.r with Z := s.k } 1 hr rfl (ok_Z HS.out.ok kb.1 kb.2)⟩, ((Below.refl B w).setCell (p := ⟨g, 3, none⟩) HS.out.lo _).setCell (p := ⟨g, 22, none⟩) HS.out.lo _⟩
/-- The word of channel k. -/
def chn (s : St) (v : Vw) : Int := if s.k = 1 then s.r.L else if s.k = 2 then s.r.Q else if s.k = 7 then 16 * s.r.Su else wd v.nc v.zc s.k
theorem chn_bd {s : St} (h : s.r.ok) (v : Vw) : 0 ≤ chn s v ∧ chn s v ≤ 32767 := by
  have hL := h.2.L
  have hQ := h.2.Q
  obtain ⟨h1, h2, _, _, _, _, _, _, _, _, h3, h4⟩ := h.1
  have := wd_bd v.nc v.zc s.k
  unfold chn
  repeat (first | omega | split)
set_option maxHeartbeats 1000000 in
theorem input_any (B g : Nat) (s : St) (hr : Bool) (v : Vw) (ea : Option Addr) (ec : Nat) (fa : Option Addr) (fc : Nat) (ca : Option Addr) (cc : Nat) (x : Int) (hx : chn s v = x) (w : World) (hs : HAt w B g s hr v ea ec fa fc ca cc) :
    Calls Tryz.prog 157 #[.pointer (some ⟨g, 0, none⟩)] w fun e w' => e = .returned (.int .u16 x) ∧ ∃ m, w' = w.drewN m := by
  obtain ⟨vC, vO, vR, h0⟩ := hs
  have c1 := h0.b.cell 1 _ rfl
  have c2 := h0.b.cell 2 _ rfl
  have c6 := h0.b.cell 6 _ rfl
  have c15 := h0.b.cell 15 _ rfl
  have c16 := h0.b.cell 16 _ rfl
  have HV := Lib.hid h0.vw
  have k0 := h0.kb.1
  have s0 : 0 ≤ s.r.Su := h0.ok.1.2.2.2.2.2.2.2.2.2.2.1
  have s1 : s.r.Su ≤ 7 := h0.ok.1.2.2.2.2.2.2.2.2.2.2.2
  have wS : IntKind.u16.wrap (16 * s.r.Su) = 16 * s.r.Su := IntWalk.u16_in _ (by omega)
  clear h0
  unfold chn at hx
  by_cases e1 : s.k = 1
  · rw [if_pos e1] at hx
    rw [e1] at c16
    have HX := Lib.hid hx
    clear hx e1 k0
    go_enter Tryz.func157, Tryz.ntmps157
    go_wp2
    go_ret
    exact ⟨ret_int HX.out, 0, rfl⟩
  by_cases e2 : s.k = 2
  · rw [if_neg e1, if_pos e2] at hx
    rw [e2] at c16
    have HX := Lib.hid hx
    clear hx e1 e2 k0
    go_enter Tryz.func157, Tryz.ntmps157
    go_wp2
    go_ret
    exact ⟨ret_int HX.out, 0, rfl⟩
  by_cases e3 : s.k = 7
  · rw [if_neg e1, if_neg e2, if_pos e3] at hx
    rw [e3] at c16
    have HX := Lib.hid hx
    clear hx e1 e2 e3 k0
    go_enter Tryz.func157, Tryz.ntmps157
    go_wp2
    go_ret
    exact ⟨ret_int HX.out, 0, rfl⟩
  rw [if_neg e1, if_neg e2, if_neg e3] at hx
  have t1 : (s.k == 1) = false := by rw [beq_eq_false_iff_ne]; exact e1
  have t2 : (s.k == 2) = false := by rw [beq_eq_false_iff_ne]; exact e2
  have t3 : (s.k == 7) = false := by rw [beq_eq_false_iff_ne]; exact e3
  have HX := Lib.hid hx
  clear hx e1 e2 e3
  go_enter Tryz.func157, Tryz.ntmps157
  go_wp2
  go_quiet ((go_at_call 76; exact quiet_left (wordAt_any ca v.nc cc v.zc s.k x HX.out k0 HV.out.lc _ (HV.out.c.drewN _) HV.out.bc)))
  go_wp2
  go_ret
  exact ⟨rfl, _, rfl⟩
/-- Storing an accumulator value at an erasable address: the registers. -/
def putR (r : Rg) (a x : Int) : Rg :=
  if a = 0 then { r with A := x } else if a = 1 then { r with L := oCorr x } else if a = 2 then { r with Q := oCorr x } else if a = 3 then { r with EB := oCorr x / 256 % 8 }
  else if a = 4 then { r with FB := oCorr x / 1024 % 32 } else if a = 5 then { r with Z := oCorr x % 4096 } else if a = 6 then { r with FB := oCorr x / 1024 % 32, EB := oCorr x % 8 } else r
def St.put (s : St) (a x : Int) : St := if a ≤ 7 then { s with r := putR s.r a x } else { s with cells := s.cells ++ [(a, oEdit a (oCorr x))] }
theorem St.len_put (s : St) (a x : Int) : (s.put a x).len ≤ s.len + 1 := by
  unfold St.put St.len
  split <;> simp <;> omega
set_option maxRecDepth 100000 in
set_option maxHeartbeats 2000000 in
theorem store_reg (B g : Nat) (s : St) (hr : Bool) (v : Vw) (ea : Option Addr) (ec : Nat) (fa : Option Addr) (fc : Nat) (ca : Option Addr) (cc : Nat) (a x : Int) (a0 : 0 ≤ a) (a1 : a ≤ 7) (x0 : 0 ≤ x) (x1 : x ≤ 65535) (w : World) (hs : HAt w B g s hr v ea ec fa fc ca cc) :
    Calls Tryz.prog 196 #[.pointer (some ⟨g, 0, none⟩), .int .i64 a, .int .u16 x] w fun e w' => e = .returned (.tuple #[]) ∧ HAt w' B g (s.put a x) hr v ea ec fa fc ca cc ∧ Below B w w' := by
  obtain ⟨vC, vO, vR, h0⟩ := hs
  have c0 := h0.b.cell 0 _ rfl
  have c1 := h0.b.cell 1 _ rfl
  have c2 := h0.b.cell 2 _ rfl
  have c3 := h0.b.cell 3 _ rfl
  have c4 := h0.b.cell 4 _ rfl
  have c5 := h0.b.cell 5 _ rfl
  have f0 := h0.b.free 0 _ rfl
  have f1 := h0.b.free 1 _ rfl
  have f2 := h0.b.free 2 _ rfl
  have f3 := h0.b.free 3 _ rfl
  have f4 := h0.b.free 4 _ rfl
  have f5 := h0.b.free 5 _ rfl
  have HS := Lib.hid h0
  have OK := Lib.hid h0.ok
  clear h0
  have yb : 0 ≤ oCorr x ∧ oCorr x ≤ 32767 := by unfold oCorr; omega
  unfold St.put putR
  rw [if_pos a1]
  obtain ⟨y, hy⟩ : ∃ y, oCorr x = y := ⟨_, rfl⟩
  rw [hy] at yb ⊢
  have HY := Lib.hid hy
  clear hy
  have k5 := HS.out.set 5 (by omega) (.int .i64 (y / 1024 % 32)) { s.r with FB := y / 1024 % 32 } s.cyc hr rfl (ok_FB OK.out (by omega) (by omega))
  have H6 := Lib.hid (k5.set 4 (by omega) (.int .i64 (y % 8)) { s.r with FB := y / 1024 % 32, EB := y % 8 } s.cyc hr rfl (ok_EB (ok_FB OK.out (a := y / 1024 % 32) (by omega) (by omega)) (a := y % 8) (by omega) (by omega)))
  clear k5
  have ca8 : a = 0 ∨ a = 1 ∨ a = 2 ∨ a = 3 ∨ a = 4 ∨ a = 5 ∨ a = 6 ∨ a = 7 := by omega
  clear a0 a1
  rcases ca8 with rfl | rfl | rfl | rfl | rfl | rfl | rfl | rfl
  all_goals
    go_enter Tryz.func196, Tryz.ntmps196
    go_wp2_with (first
      | (go_at_call 28; refine (Correct_any x x0 (by omega) _).mono ?_; rintro e w1 ⟨rfl, rfl⟩; rw [HY.out])
      | (go_at_call_of 150 (Value.int IntKind.i64 256); refine (part_any y 256 8 _ rfl (by omega) (by omega) (by omega) (by omega) (by omega) _).mono ?_; rintro e w1 ⟨rfl, rfl⟩)
      | (go_at_call_of 150 (Value.int IntKind.i64 1024); refine (part_any y 1024 32 _ rfl (by omega) (by omega) (by omega) (by omega) (by omega) _).mono ?_; rintro e w1 ⟨rfl, rfl⟩)
      | (go_at_call_of 150 (Value.int IntKind.i64 4096); refine (part_any y 1 4096 (y % 4096) (by rw [Int.ediv_one]) (by omega) (by omega) (by omega) (by omega) (by omega) _).mono ?_; rintro e w1 ⟨rfl, rfl⟩)
      | (go_at_call 150; refine (part_any y 1 8 (y % 8) (by rw [Int.ediv_one]) (by omega) (by omega) (by omega) (by omega) (by omega) _).mono ?_; rintro e w1 ⟨rfl, rfl⟩))
    go_end0
    first
      | exact ⟨rfl, ⟨vC, vO, vR, HS.out.set 0 (by omega) _ _ s.cyc hr rfl (ok_A OK.out x0 x1)⟩, (Below.refl B w).setCell (p := ⟨g, 0, none⟩) HS.out.lo _⟩
      | exact ⟨rfl, ⟨vC, vO, vR, HS.out.set 1 (by omega) _ _ s.cyc hr rfl (ok_L OK.out yb.1 yb.2)⟩, (Below.refl B w).setCell (p := ⟨g, 1, none⟩) HS.out.lo _⟩
      | exact ⟨rfl, ⟨vC, vO, vR, HS.out.set 2 (by omega) _ _ s.cyc hr rfl (ok_Q OK.out yb.1 yb.2)⟩, (Below.refl B w).setCell (p := ⟨g, 2, none⟩) HS.out.lo _⟩
      | exact ⟨rfl, ⟨vC, vO, vR, HS.out.set 3 (by omega) _ _ s.cyc hr rfl (ok_Z OK.out (by omega) (by omega))⟩, (Below.refl B w).setCell (p := ⟨g, 3, none⟩) HS.out.lo _⟩
      | exact ⟨rfl, ⟨vC, vO, vR, HS.out.set 4 (by omega) _ _ s.cyc hr rfl (ok_EB OK.out (by omega) (by omega))⟩, (Below.refl B w).setCell (p := ⟨g, 4, none⟩) HS.out.lo _⟩
      | exact ⟨rfl, ⟨vC, vO, vR, HS.out.set 5 (by omega) _ _ s.cyc hr rfl (ok_FB OK.out (by omega) (by omega))⟩, (Below.refl B w).setCell (p := ⟨g, 5, none⟩) HS.out.lo _⟩
      | exact ⟨rfl, ⟨vC, vO, vR, H6.out⟩, ((Below.refl B w).setCell (p := ⟨g, 5, none⟩) HS.out.lo _).setCell (p := ⟨g, 4, none⟩) HS.out.lo _⟩
      | exact ⟨rfl, ⟨vC, vO, vR, HS.out⟩, Below.refl B w⟩
end Go.Proofs.YtjjkikghfmnikaaGreatDoor
